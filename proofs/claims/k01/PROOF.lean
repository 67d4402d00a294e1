import PyProof.Rows.All
import Wide.All
import OpenK.AllK
import Wide.FinOn
import PyProof.Rows.MatchSeqLen
import HandS.Base
import HandS.Call
import HandS.List
import HandS.ForMost
import HandS.Exc
import HandS.TryOnly
import HandS.Defaults
import HandS.Conv
import HandS.Strs
import HandS.IsInst
import HandS.Zip
import HandS.Deep
import HandS.TupAny
import HandS.Evl
import HandS.Text
import KE.BitLaws
import HandS.HeadHook1
import HandS.HeadHook2
import HandS.HeadHook3
import HandS.HeadHook4
import HandS.Walk
import HandS.ExcIs
import HandS.Dict
import HandS.WordsDict
import KE.GoesMore
import KE.KStateDown
import Lean
import HandS.Codes
import HandS.Lambda
import HandS.Head0
import HandS.Head1
import HandS.Head2
import HandS.HeadEnd
import HandS.HeadWalk
import HandS.ExcOwn
import KE.KTupSum
import HandS.Style
import PySem.Challenge.RW_bitmill_k01_deeds_refused_anywhere
set_option Elab.async false
set_option linter.all false
set_option maxRecDepth 100000
set_option maxHeartbeats 200000
namespace Bm
open PySem PySem.Spec PyProof.Rows L2
abbrev PK := Option (List (Nat × V)) → Hp → Prop
abbrev TPt := V → Hp → PK → Prop
def Bnd (X : Cx) : List (Str × Value) → List (Nat × V) → Prop := Paired fun p q => (X.N[q.1]? = some p.1 ∧ Loc X.env.scope p.1 ∧ (X.fn p.1 = true ∨ X.env.scope.names.lookup p.1 = some .local)) ∧ RelV q.2 p.2
theorem Bnd.app {X : Cx} : ∀ {a c : List (Str × Value)} {b d : List (Nat × V)}, Bnd X a b → Bnd X c d → Bnd X (a ++ c) (b ++ d)
  | [], _, [], _, _, h => h
  | _ :: _, _, _ :: _, _, .cons r t, h => .cons r (Bnd.app t h)
def PRel (X : Cx) : Option (List (Str × Value)) → Option (List (Nat × V)) → Prop
  | none, none => True
  | some b, some c => Bnd X b c
  | _, _ => False
def PtP (X : Cx) (pins : List (Addr × Obj)) (σ : L2.St) (k : PK) (r : Option (List (Str × Value))) (s' : Shared) : Prop := ∃ ro H', Inv X pins σ H' s' ∧ PRel X r ro ∧ k ro H'
structure PPt (X : Cx) (p : Pattern) (t : TPt) : Prop where
  run : ∀ (pins : List (Addr × Obj)) (s : Shared) (σ : L2.St) (H : Hp) (v : V) (u : Value) (k : PK), Inv X pins σ H s → RelV v u → t v H k →
    wpAny (model X.prog X.w) X.A (matchPattern p X.env u) (PtP X pins σ k) X.xe s
structure PPs (X : Cx) (ps : List Pattern) (t : List V → Hp → PK → Prop) : Prop where
  run : ∀ (pins : List (Addr × Obj)) (s : Shared) (σ : L2.St) (H : Hp) (vs : List V) (us : List Value) (k : PK), Inv X pins σ H s → Vals vs us → t vs H k →
    wpAny (model X.prog X.w) X.A (matchEach ps X.env us) (PtP X pins σ k) X.xe s
section
variable {X : Cx}
/-- a written text (or number): equal or not -/
def tPv (c : V) : TPt := fun v H k => scal v c = true ∧ k (if v = c then some [] else none) H
theorem pp_val {e : Expr} {c : V} {pos : Pos} (he : PE X e (tC c)) : PPt X (.MatchValue e pos) (tPv c) := by
  refine ⟨fun pins s σ H v u k I r h => ?_⟩
  obtain ⟨h1, h2⟩ := h
  refine wpAny_matchPattern_Value (thn (he.run pins s σ H (fun x H1 => x = c ∧ H1 = H) I ⟨rfl, rfl⟩) fun x s1 ⟨y, H1, I1, r1, e1, e2⟩ => ?_)
  subst e1 e2
  refine thn (op_eq pins s1 σ H1 v y u x (fun z H2 => z = .bl (decide (v = y)) ∧ H2 = H1) I1 r r1 ⟨h1, rfl, rfl⟩) fun z s2 ⟨w, H2, I2, r2, e1, e2⟩ => ?_
  subst e1 e2
  cases r2
  refine wpAny_truthy_bool ?_
  by_cases q : v = y
  · rw [decide_eq_true q]
    rw [if_pos q] at h2
    exact ⟨some [], H2, I2, .nil, h2⟩
  · rw [decide_eq_false q]
    rw [if_neg q] at h2
    exact ⟨none, H2, I2, True.intro, h2⟩
/-- a name -/
def tPn (i : Nat) : TPt := fun v H k => k (some [(i, v)]) H
theorem pp_name {i : Nat} {x : Str} {pos : Pos} (hi : X.N[i]? = some x) (hx : Loc X.env.scope x) (hf : X.fn x = true ∨ X.env.scope.names.lookup x = some .local := by first | exact .inl rfl | exact .inr rfl) : PPt X (.MatchAs none (some x) pos) (tPn i) := by
  refine ⟨fun pins s σ H v u k I r h => ?_⟩
  exact wpAny_matchPattern_Capture ⟨some [(i, v)], H, I, .cons ⟨⟨hi, hx, hf⟩, r⟩ .nil, h⟩
/-- whatever it is -/
def tPw : TPt := fun _ H k => k (some []) H
theorem pp_wild {pos : Pos} : PPt X (.MatchAs none none pos) tPw := ⟨fun pins s σ H v u k I r h => wpAny_matchPattern_Capture ⟨some [], H, I, .nil, h⟩⟩
def tPnil : List V → Hp → PK → Prop := fun vs H k => vs = [] ∧ k (some []) H
def tPcons (t : TPt) (u : List V → Hp → PK → Prop) : List V → Hp → PK → Prop := fun vs H k => ∃ v r, vs = v :: r ∧ t v H fun a H1 => match a with
  | none => k none H1
  | some b => u r H1 fun c H2 => match c with
    | none => k none H2
    | some d => k (some (b ++ d)) H2
theorem pps_nil : PPs X [] tPnil := ⟨fun pins s σ H vs us k I r h => by
  obtain ⟨e, h⟩ := h
  subst e
  cases r
  exact wpAny_matchEach_nil ⟨some [], H, I, .nil, h⟩⟩
theorem pps_cons {p : Pattern} {ps : List Pattern} {t : TPt} {u : List V → Hp → PK → Prop} (h1 : PPt X p t) (h2 : PPs X ps u) (hp : p.isStar = false := by rfl) : PPs X (p :: ps) (tPcons t u) := by
  refine ⟨fun pins s σ H vs us k I r h => ?_⟩
  obtain ⟨v, vr, e, h⟩ := h
  subst e
  cases r with
  | cons r rr =>
    refine wpAny_matchEach_cons (thn (h1.run pins s σ H v _ _ I r h) fun a s1 ⟨ro, H1, I1, rel, q⟩ => ?_) hp
    cases a with
    | none =>
      cases ro with
      | none => exact ⟨none, H1, I1, True.intro, q⟩
      | some _ => exact rel.elim
    | some bs =>
      cases ro with
      | none => exact rel.elim
      | some b =>
        refine thn (h2.run pins s1 σ H1 vr _ _ I1 rr q) fun c s2 ⟨rc, H2, I2, rel2, q2⟩ => ?_
        cases c with
        | none =>
          cases rc with
          | none => exact ⟨none, H2, I2, True.intro, q2⟩
          | some _ => exact rel2.elim
        | some cs =>
          cases rc with
          | none => exact rel2.elim
          | some d => exact ⟨some (b ++ d), H2, I2, Bnd.app rel rel2, q2⟩
/-- (p, q, ..) of a tuple -/
def tPseq (K : PySem.W.Frag) (n : Nat) (t : List V → Hp → PK → Prop) : TPt := fun v H k => ∃ a xs, v = .ref a ∧ SqT K H a xs ∧ if xs.length = n then t xs H k else k none H
theorem line63 {n : Nat} (h : n ≤ sizeLine) : (n : Int) < 2 ^ 63 := by
  have e : sizeLine = 16777216 := sizeLine_eq
  omega
theorem pp_seq {ps : List Pattern} {pos : Pos} {n : Nat} {t : List V → Hp → PK → Prop} (hc : X.calm = true) (h : PPs X ps t) (hn : ps.length = n := by rfl) (hstar : ps.findIdx? (·.isStar) = none := by rfl)
    (hwild : (ps.all fun p => p.isWildcard || (p.isStar && p.names.isEmpty)) = false := by rfl) : PPt X (.MatchSequence ps pos) (tPseq X.K n t) := by
  refine ⟨fun pins s σ H v u k I r hw => ?_⟩
  obtain ⟨a, xs, e, hq, hw⟩ := hw
  subst e hn
  cases r
  obtain ⟨its, rv, ht, hz⟩ := I.tuple hq
  have hl := rv.length
  have fit : ((its.toArray.size : Nat) : Int) < 2 ^ 63 := by
    rw [List.size_toArray, ← hl]
    exact line63 hz
  by_cases q : xs.length = ps.length
  · rw [if_pos q] at hw
    have en : its.toArray.size = ps.length := by rw [List.size_toArray, ← hl, q]
    refine matchSeq_tuple_hit ht fit en ?_ hstar hwild
    rw [← en]
    refine unpackItems_tuple (I.ok.hd hc) ht fun h' hx => ?_
    have I1 := I.tok (s.toks + 1 + 1)
    have I2 := I1.kept (h' := h') (t' := s.toks + 1 + 1) fun b o e => hx b o (Nat.ne_of_lt (Heap.lt_size e)) e
    exact h.run pins _ σ H xs _ k I2 (by simpa using rv) hw
  · rw [if_neg q] at hw
    refine matchSeq_tuple_miss ht fit (fun z => q ?_) ⟨none, H, I.tok _, True.intro, hw⟩ hstar hwild
    rw [← z, List.size_toArray, hl]
/-- either of two or more -/
def tPfirst (t : TPt) (u : TPt) : TPt := fun v H k => t v H fun a H1 => match a with
  | some b => k (some b) H1
  | none => u v H1 k
structure PPf (X : Cx) (ps : List Pattern) (t : TPt) : Prop where
  run : ∀ (pins : List (Addr × Obj)) (s : Shared) (σ : L2.St) (H : Hp) (v : V) (u : Value) (k : PK), Inv X pins σ H s → RelV v u → t v H k →
    wpAny (model X.prog X.w) X.A (matchFirst ps X.env u) (PtP X pins σ k) X.xe s
theorem ppf_nil : PPf X [] (fun _ H k => k none H) := ⟨fun pins s σ H v u k I r h => wpAny_matchFirst_nil ⟨none, H, I, True.intro, h⟩⟩
theorem ppf_cons {p : Pattern} {ps : List Pattern} {t u : TPt} (h1 : PPt X p t) (h2 : PPf X ps u) : PPf X (p :: ps) (tPfirst t u) := by
  refine ⟨fun pins s σ H v w k I r h => ?_⟩
  refine wpAny_matchFirst_cons (thn (h1.run pins s σ H v w _ I r h) fun a s1 ⟨ro, H1, I1, rel, q⟩ => ?_)
  cases a with
  | none =>
    cases ro with
    | none => exact h2.run pins s1 σ H1 v w k I1 r q
    | some _ => exact rel.elim
  | some bs =>
    cases ro with
    | none => exact rel.elim
    | some b => exact ⟨some b, H1, I1, rel, q⟩
/-- texts in a row, with no names: "jump" | "call" -/
def tPor (t : TPt) : TPt := fun v H k => t v H fun a H1 => match a with
  | some _ => k (some []) H1
  | none => k none H1
theorem pp_or {ps : List Pattern} {pos : Pos} {t : TPt} (h : PPf X ps t) (hn : namesOfAll (ps.take 1) = [] := by rfl) : PPt X (.MatchOr ps pos) (tPor t) := by
  refine ⟨fun pins s σ H v u k I r hw => ?_⟩
  refine wpAny_matchPattern_Or (thn (h.run pins s σ H v u _ I r hw) fun a s1 ⟨ro, H1, I1, rel, q⟩ => ?_)
  cases a with
  | none =>
    cases ro with
    | none => exact ⟨none, H1, I1, True.intro, q⟩
    | some _ => exact rel.elim
  | some bs =>
    cases ro with
    | none => exact rel.elim
    | some b =>
      show PtP X pins σ k (some ((namesOfAll (ps.take 1)).filterMap fun n => (bs.lookup n).map (n, ·))) s1
      rw [hn]
      exact ⟨some [], H1, I1, .nil, q⟩
/-- the slots that the names of a pattern get, one after another -/
def setAll : List (Nat × V) → L2.St → L2.St
  | [], σ => σ
  | (i, v) :: r, σ => setAll r (σ.set i (some v))
theorem bind_all {M : Model} {E : Value → Shared → Prop} {pins : List (Addr × Obj)} {H : Hp} {A : Around} (hN : X.N.Nodup) {bs : List (Str × Value)} {cs : List (Nat × V)} (B : Bnd X bs cs) : ∀ {σ : L2.St} {s : Shared} {Q : Unit → Shared → Prop}, Inv X pins σ H s →
    (∀ s', Inv X pins (setAll cs σ) H s' → Q () s') → wpAny M A (assignInOrder (bs.map fun (n, _) => bindName X.env n) (bs.map (·.2))) Q E s := by
  induction bs generalizing cs with
  | nil =>
    intro σ s Q I h
    cases B
    exact wpAny_assignInOrder_none (h s I)
  | cons p bs ih =>
    intro σ s Q I h
    cases cs with
    | nil => cases B
    | cons q cs =>
      have B1 : ((X.N[q.1]? = some p.1 ∧ Loc X.env.scope p.1 ∧ (X.fn p.1 = true ∨ X.env.scope.names.lookup p.1 = some .local)) ∧ RelV q.2 p.2) ∧ Bnd X bs cs := by
        cases B with
        | cons r t => exact ⟨r, t⟩
      obtain ⟨⟨⟨hi, hx, hf⟩, r⟩, t⟩ := B1
      refine wpAny_assignInOrder_more (wpAny_bindName (store_ok I hN hi hx r (fun s' I' => ?_) hf))
      exact ih t I' h
abbrev TCs := V → TS
structure PCs (X : Cx) (cs : List MatchCase) (t : TCs) : Prop where
  run : ∀ (first : Bool) (pins : List (Addr × Obj)) (s : Shared) (σ : L2.St) (H : Hp) (v : V) (u : Value) (D : Ends), Inv X pins σ H s → RelV v u → t v D σ H →
    wpAny (model X.prog X.w) X.A (matchCases cs X.env u first) (SP X pins D) X.xe s
def tCsNil : TCs := fun _ D σ H => D.nx σ H
theorem pcs_nil : PCs X [] tCsNil := ⟨fun first pins s σ H v u D I r h => wpAny_matchCases_nil ⟨σ, H, I, h⟩⟩
def tCs (p : TPt) (b : TS) (t : TCs) : TCs := fun v D σ H => p v H fun a H1 => match a with
  | none => t v D σ H1
  | some cs => b D (setAll cs σ) H1
theorem pcs_cons {p : Pattern} {body : List Stmt} {rest : List MatchCase} {tp : TPt} {b : TS} {t : TCs} (hN : X.N.Nodup) (hp : PPt X p tp) (hb : PSs X body b) (hr : PCs X rest t) : PCs X (⟨p, none, body⟩ :: rest) (tCs tp b t) := by
  refine ⟨fun first pins s σ H v u D I r h => ?_⟩
  refine wpAny_matchCases_cons (thn (hp.run pins s σ H v u _ I r h) fun a s1 ⟨ro, H1, I1, rel, q⟩ => ?_)
  cases a with
  | none =>
    cases ro with
    | none => exact hr.run false pins s1 σ H1 v u D I1 r q
    | some _ => exact rel.elim
  | some bs =>
    cases ro with
    | none => exact rel.elim
    | some cs => exact bind_all hN rel I1 fun s2 I2 => hb.run pins s2 _ H1 D I2 q
def tMatch (te : TE) (t : TCs) : TS := fun D σ H => te σ H fun v H1 => t v D σ H1
theorem ps_match {e : Expr} {cs : List MatchCase} {pos : Pos} {te : TE} {t : TCs} (he : PE X e te) (h : PCs X cs t) : PS X (.Match e cs pos) (tMatch te t) := by
  refine ⟨fun pins s σ H D I hw => ?_⟩
  exact wpAny_Match (thn (he.run pins s σ H _ I hw) fun u s1 ⟨v, H1, I1, r1, q1⟩ => h.run true pins s1 σ H1 v u D I1 r1 q1)
end
end Bm
set_option maxHeartbeats 400000
namespace Bm
open PySem PySem.Spec PyProof.Rows L2
/-! a def known by its name, the values that stand for what a call leaves out -/
structure Kn (P : Program) (w : World) (K : PySem.W.Frag) (mg : Str → Option Value) (base : Heap) (CX : CXT) (k : Nat) (x : Str) (ps : List Str) (dvs : List V) (sp : Sp) : Prop where
  ex : ∃ (f : Addr) (fd : FuncData) (ds : List Value), mg x = some (.ref f) ∧ PySem.W.keepIn K (.ref f) = true ∧ FnOk P w K mg base CX k f fd ps sp ∧ Binds K fd ps ds ∧ Vals dvs ds
section
variable {X : Cx} {CX : CXT} {k j : Nat} {x : Str} {ps : List Str} {dvs : List V} {sp : Sp} {E : XK} {p pos : Pos} {e : Expr} {es : List Expr} {t : TA}
theorem pk (n : Kn X.prog X.w X.K X.mg X.base CX k x ps dvs sp) (hr : Room j X.A) (hj : k ≤ j) (hg : Gl X x) (hx : Passes CX X E) (ha : PA X (e :: es) t) (hdb : (x == ("__debug__" : Str)) = false := by decide)
    (star1 : starEach (e :: es) X.env = (false, eval e X.env) :: starEach es X.env := by rfl) (star2 : (backTo pos (starEach es X.env)).any (·.1) = false := by rfl) : PE X (.Call (.Name x p) (e :: es) [] pos) (tCall sp dvs E t) := by
  obtain ⟨f, fd, ds, h1, h2, h3, h4, h5⟩ := n.ex
  exact pe_call h3 (hr.mono hj) hg h1 h2 h4 h5 hx ha (by first | exact hdb | exact star1 | exact star2) (by first | exact hdb | exact star1 | exact star2) (by first | exact hdb | exact star1 | exact star2)
theorem pk0 (n : Kn X.prog X.w X.K X.mg X.base CX k x ps dvs sp) (hr : Room j X.A) (hj : k ≤ j) (hg : Gl X x) (hx : Passes CX X E) (hdb : (x == ("__debug__" : Str)) = false := by decide) :
    PE X (.Call (.Name x p) [] [] pos) (tCall sp dvs E tNil) := by
  obtain ⟨f, fd, ds, h1, h2, h3, h4, h5⟩ := n.ex
  exact pe_call0 h3 (hr.mono hj) hg h1 h2 h4 h5 hx hdb
end
theorem Same.tup {K : PySem.W.Frag} {H H' : Hp} {a : Addr} {xs : List V} (e : Same H H') (h : SqT K H a xs) : SqT K H' a xs := by
  rcases h with (h | ⟨o, h⟩) | h
  · exact .inl (.inl (e _ _ h))
  · exact .inl (.inr ⟨o, e _ _ h⟩)
  · exact .inr h
theorem Same.add {H : Hp} {p : Addr} {o : HO} (h : H p = none) : Same H (upd H p o) := fun b u q => by
  rw [upd_ne (ne_of_none q h)]
  exact q
/-- a thing just laid, told by what stays -/
theorem laid {o : HO} {H : Hp} {Q : VK} (h : ∀ p H1, H p = none → Same H H1 → H1 p = some o → Q (.ref p) H1) : ∀ p, H p = none → Q (.ref p) (upd H p o) := fun p hp => h p _ hp (Same.add hp) upd_same
theorem line5 {n : Nat} (h : n ≤ 100000) : n ≤ sizeLine := Nat.le_trans h (by decide)
end Bm
set_option maxHeartbeats 400000
namespace Bm
open PySem PySem.Spec PyProof.Rows L2
/-! what a pattern gives -/
def PEv (t : TPt) (v : V) (H : Hp) (r : Option (List (Nat × V))) : Prop := ∀ k : PK, k r H → t v H k
def PsEv (t : List V → Hp → PK → Prop) (vs : List V) (H : Hp) (r : Option (List (Nat × V))) : Prop := ∀ k : PK, k r H → t vs H k
section
variable {K : PySem.W.Frag} {H : Hp} {v : V} {t : TPt} {u : List V → Hp → PK → Prop} {vs : List V} {a : Addr} {n : Nat} {D : Ends} {σ : L2.St} {b : TS} {cs : TCs}
theorem pev_yes {c : V} (h : scal c c = true) : PEv (tPv c) c H (some []) := fun k q => ⟨h, by rw [if_pos rfl]; exact q⟩
theorem pev_no {c : V} (h : scal v c = true) (hn : v ≠ c) : PEv (tPv c) v H none := fun k q => ⟨h, by rw [if_neg hn]; exact q⟩
theorem pev_str {x c : Str} (hn : x ≠ c) : PEv (tPv (.str c)) (.str x) H none := pev_no rfl fun z => hn (V.str.inj z)
theorem pev_name {i : Nat} : PEv (tPn i) v H (some [(i, v)]) := fun k q => q
theorem pev_wild : PEv tPw v H (some []) := fun k q => q
theorem psev_nil : PsEv tPnil [] H (some []) := fun k q => ⟨rfl, q⟩
theorem psev_cons {x y : List (Nat × V)} (h1 : PEv t v H (some x)) (h2 : PsEv u vs H (some y)) : PsEv (tPcons t u) (v :: vs) H (some (x ++ y)) := fun k q => ⟨v, vs, rfl, h1 _ (h2 _ q)⟩
theorem psev_no (h1 : PEv t v H none) : PsEv (tPcons t u) (v :: vs) H none := fun k q => ⟨v, vs, rfl, h1 _ q⟩
theorem psev_skip {x : List (Nat × V)} (h1 : PEv t v H (some x)) (h2 : PsEv u vs H none) : PsEv (tPcons t u) (v :: vs) H none := fun k q => ⟨v, vs, rfl, h1 _ (h2 _ q)⟩
theorem pev_seq {r : Option (List (Nat × V))} (hs : SqT K H a vs) (hl : vs.length = n) (h : PsEv u vs H r) : PEv (tPseq K n u) (.ref a) H r := fun k q => ⟨a, vs, rfl, hs, by rw [if_pos hl]; exact h k q⟩
theorem pev_len (hs : SqT K H a vs) (hl : vs.length ≠ n) : PEv (tPseq K n u) (.ref a) H none := fun k q => ⟨a, vs, rfl, hs, by rw [if_neg hl]; exact q⟩
theorem cs_yes {x : List (Nat × V)} (h : PEv t v H (some x)) (q : b D (setAll x σ) H) : tCs t b cs v D σ H := h _ q
theorem cs_no (h : PEv t v H none) (q : cs v D σ H) : tCs t b cs v D σ H := h _ q
theorem pev_first {r : Option (List (Nat × V))} {x : List (Nat × V)} (h : PEv t v H (some x)) (t2 : TPt) : PEv (tPfirst t t2) v H (some x) := fun k q => h _ q
theorem pev_next {t2 : TPt} {r : Option (List (Nat × V))} (h : PEv t v H none) (h2 : PEv t2 v H r) : PEv (tPfirst t t2) v H r := fun k q => h _ (h2 k q)
theorem pev_or {x : List (Nat × V)} (h : PEv t v H (some x)) : PEv (tPor t) v H (some []) := fun k q => h _ q
theorem pev_orN (h : PEv t v H none) : PEv (tPor t) v H none := fun k q => h _ q
end
end Bm
set_option maxHeartbeats 400000
namespace Bm
open PySem L2
/-! the deeds -/
def SG : List Str := ["halt", "rest", "back", "say", "ask", "push", "pop"]
def SM : List Str := ["add", "less", "and", "or", "xor", "left", "right", "turn"]
def TM : List Str := ["always", "zero", "some", "carry", "clear", "minus", "over"]
abbrev nm (l : List Str) (k : Nat) : Str := l.getD k ""
inductive De where
  | sgl (k : Nat) | reg (k : Nat) (a : Int) | sum (k : Nat) (d a b : Int) | plus (d a n : Int) | set (d n : Int) | high (d n : Int) | load (d a n : Int) | store (d a n : Int)
  | jump (k : Nat) (g : Int) (far : Bool) | call (g : Int) (far : Bool)
def r3 (a : Int) : Prop := 0 ≤ a ∧ a ≤ 7
def De.ok : De → Prop
  | .sgl k => k < 3
  | .reg k a => 3 ≤ k ∧ k < 7 ∧ r3 a
  | .sum k d a b => k < 8 ∧ r3 d ∧ r3 a ∧ r3 b
  | .plus d a n => r3 d ∧ r3 a ∧ -32 ≤ n ∧ n ≤ 31
  | .set d n => r3 d ∧ 0 ≤ n ∧ n ≤ 511
  | .high d n => r3 d ∧ 0 ≤ n ∧ n ≤ 127
  | .load d a n => r3 d ∧ r3 a ∧ 0 ≤ n ∧ n ≤ 63
  | .store d a n => r3 d ∧ r3 a ∧ 0 ≤ n ∧ n ≤ 63
  | .jump k g _ => k < 7 ∧ 0 ≤ g ∧ g ≤ 65535
  | .call g _ => 0 ≤ g ∧ g ≤ 65535
def De.vals : De → List V
  | .sgl k => [.str (nm SG k)]
  | .reg k a => [.str (nm SG k), .int a]
  | .sum k d a b => [.str (nm SM k), .int d, .int a, .int b]
  | .plus d a n => [.str "plus", .int d, .int a, .int n]
  | .set d n => [.str "set", .int d, .int n]
  | .high d n => [.str "high", .int d, .int n]
  | .load d a n => [.str "load", .int d, .int a, .int n]
  | .store d a n => [.str "store", .int d, .int a, .int n]
  | .jump k g f => [.str "jump", .str (nm TM k), .int g, .bl f]
  | .call g f => [.str "call", .int g, .bl f]
/-- the word of a deed that goes nowhere -/
def De.word : De → Int
  | .sgl k => k * 512
  | .reg k a => k * 512 + a * 64
  | .sum k d a b => 4096 + d * 512 + a * 64 + b * 8 + k
  | .plus d a n => 8192 + d * 512 + a * 64 + n % 64
  | .set d n => 12288 + d * 512 + n
  | .high d n => 16384 + d * 512 + n
  | .load d a n => 20480 + d * 512 + a * 64 + n
  | .store d a n => 24576 + d * 512 + a * 64 + n
  | _ => 0
def De.goes : De → Bool
  | .jump _ _ _ => true
  | .call _ _ => true
  | _ => false
def near (g p : Int) : Prop := -16 ≤ g - p - 1 ∧ g - p - 1 ≤ 15
instance (g p : Int) : Decidable (near g p) := inferInstanceAs (Decidable (_ ∧ _))
def De.reached (p : Int) : De → Prop
  | .jump _ g false => near g p
  | .call g false => near g p
  | _ => True
def De.words (p : Int) : De → List Int
  | .jump k g true => [32768 + k * 512, g]
  | .jump k g false => [28672 + k * 512 + (g - p - 1) % 32]
  | .call g true => [40960, g]
  | .call g false => [36864 + (g - p - 1) % 32]
  | d => [d.word]
theorem words_word {d : De} (h : d.goes = false) (p : Int) : d.words p = [d.word] := by
  cases d <;> first | rfl | cases h
/-! bits side by side -/
theorem or_side {x y : Int} (k : Nat) (hx : 0 ≤ x) (h0 : 0 ≤ y) (h1 : y < 2 ^ k) : Builtin.bitOr (x * 2 ^ k) y = x * 2 ^ k + y := by
  rw [Bits.bitOr_join' h0 h1 hx, Int.add_comm]
theorem or6 {x y : Int} (hx : 0 ≤ x) (h0 : 0 ≤ y) (h1 : y < 64) : Builtin.bitOr (x * 64) y = x * 64 + y := or_side 6 hx h0 h1
theorem or9 {x y : Int} (hx : 0 ≤ x) (h0 : 0 ≤ y) (h1 : y < 512) : Builtin.bitOr (x * 512) y = x * 512 + y := or_side 9 hx h0 h1
theorem or3' {x y : Int} (hx : 0 ≤ x) (h0 : 0 ≤ y) (h1 : y < 8) : Builtin.bitOr (x * 8) y = x * 8 + y := or_side 3 hx h0 h1
/-! the names -/
theorem sg_ne : ∀ k, k < 7 → nm SG k ≠ "set" ∧ nm SG k ≠ "high" ∧ nm SG k ≠ "jump" ∧ nm SG k ≠ "call" := by decide +kernel
theorem sm_ne : ∀ k, k < 8 → nm SM k ≠ "plus" ∧ nm SM k ≠ "load" ∧ nm SM k ≠ "store" ∧ nm SM k ≠ "jump" ∧ nm SM k ≠ "call" := by decide +kernel
theorem sg_at : ∀ k, k < 7 → SG[k]? = some (nm SG k) ∧ ∀ m, m < k → SG[m]? ≠ some (nm SG k) := by decide +kernel
theorem sm_at : ∀ k, k < 8 → SM[k]? = some (nm SM k) ∧ ∀ m, m < k → SM[m]? ≠ some (nm SM k) := by decide +kernel
theorem tm_at : ∀ k, k < 7 → TM[k]? = some (nm TM k) ∧ ∀ m, m < k → TM[m]? ≠ some (nm TM k) := by decide +kernel
end Bm
set_option maxHeartbeats 400000
namespace Bm
open PySem PySem.Spec PyProof.Rows L2
/-! a tuple that the top has written, at an address -/
def tupAt (K : PySem.W.Frag) (a : Addr) (vs : List He.Dv) : Bool := match K.lookup a with
  | some ⟨.type c, none, .seq its _, _⟩ => decide (c = "tuple") && (decide (its.size ≤ sizeLine) && He.relAll (vs.map (He.Dv.v K)) its.toList)
  | _ => false
theorem tupAt_ok {K : PySem.W.Frag} {a : Addr} {vs : List He.Dv} (h : tupAt K a vs = true) (H : Hp) : SqT K H a (vs.map (He.Dv.v K)) ∧ tyV K "tuple" (.ref a) H := by
  unfold tupAt at h
  cases q : K.lookup a with
  | none => rw [q] at h; cases h
  | some o =>
    obtain ⟨oc, od, dt, osl⟩ := o
    rw [q] at h
    cases oc with
    | type c =>
      cases od with
      | some z => cases dt <;> cases h
      | none =>
        cases dt with
        | seq its n =>
          obtain ⟨h1, h2⟩ := He.ba (show (decide (c = "tuple") && (decide (its.size ≤ sizeLine) && He.relAll (vs.map (He.Dv.v K)) its.toList)) = true from h)
          obtain ⟨h3, h4⟩ := He.ba h2
          exact ⟨.inr ⟨_, its, n, q, congrArg Value.type (of_decide_eq_true h1), rfl, of_decide_eq_true h3, He.relAll_ok h4⟩, .inr (.inl ⟨rfl, _, q, congrArg Value.type (of_decide_eq_true h1), rfl⟩)⟩
        | _ => cases h
    | _ => cases od <;> cases dt <;> cases h
/-! a table of the top from texts to tuples -/
def rowB (K : PySem.W.Frag) (d : Addr) (r : Str × List He.Dv) : Bool := match PySem.W.nsIn K d r.1 with
  | some (some (.ref t)) => tupAt K t r.2
  | _ => false
theorem rowB_ok {K : PySem.W.Frag} {d : Addr} {r : Str × List He.Dv} (h : rowB K d r = true) : ∃ t, PySem.W.nsIn K d r.1 = some (some (.ref t)) ∧ ∀ H, SqT K H t (r.2.map (He.Dv.v K)) := by
  unfold rowB at h
  cases q : PySem.W.nsIn K d r.1 with
  | none => rw [q] at h; cases h
  | some o =>
    rw [q] at h
    cases o with
    | none => cases h
    | some v =>
      cases v with
      | ref t => exact ⟨t, rfl, fun H => (tupAt_ok h H).1⟩
      | _ => cases h
def noB (K : PySem.W.Frag) (d : Addr) (x : Str) : Bool := He.eqO (PySem.W.nsIn K d x) (some none)
def dStr (l : List Str) : List He.Dv := l.map He.Dv.str
theorem dStr_v {K : PySem.W.Frag} (l : List Str) : (dStr l).map (He.Dv.v K) = l.map V.str := by
  unfold dStr
  rw [List.map_map]
  rfl
def PT : List (Str × List Str) := [("halt", []), ("rest", []), ("back", []), ("say", ["reg"]), ("ask", ["reg"]), ("push", ["reg"]), ("pop", ["reg"]),
  ("add", ["reg", "reg", "reg"]), ("less", ["reg", "reg", "reg"]), ("and", ["reg", "reg", "reg"]), ("or", ["reg", "reg", "reg"]), ("xor", ["reg", "reg", "reg"]), ("left", ["reg", "reg", "reg"]), ("right", ["reg", "reg", "reg"]), ("turn", ["reg", "reg", "reg"]),
  ("plus", ["reg", "reg", "signed six"]), ("set", ["reg", "nine"]), ("high", ["reg", "seven"]), ("load", ["reg", "reg", "six"]), ("store", ["reg", "reg", "six"]), ("jump", ["when", "goal", "far"]), ("call", ["goal", "far"])]
def ST : List (Str × Int × Int) := [("reg", 0, 7), ("signed six", -32, 31), ("six", 0, 63), ("seven", 0, 127), ("nine", 0, 511), ("goal", 0, 65535)]
/-- what the deeds' module has written -/
def conB (odd : List Str) (K : PySem.W.Frag) : Bool :=
  tupAt K (He.ga K "SINGLES") (dStr SG) && (tupAt K (He.ga K "SUMS") (dStr SM) && (tupAt K (He.ga K "TIMES") (dStr TM) &&
    ((PT.all fun r => rowB K (He.ga K "PARTS") (r.1, dStr r.2)) && ((ST.all fun r => rowB K (He.ga K "SPANS") (r.1, [.int r.2.1, .int r.2.2])) && odd.all fun x => noB K (He.ga K "PARTS") x))))
structure Con (w : World) (K : PySem.W.Frag) (mg : Str → Option Value) (odd : List Str) : Prop where
  g_SINGLES : mg "SINGLES" = some (.ref (He.ga K "SINGLES"))
  g_SUMS : mg "SUMS" = some (.ref (He.ga K "SUMS"))
  g_TIMES : mg "TIMES" = some (.ref (He.ga K "TIMES"))
  g_PARTS : mg "PARTS" = some (.ref (He.ga K "PARTS"))
  g_SPANS : mg "SPANS" = some (.ref (He.ga K "SPANS"))
  sg : ∀ H, SqT K H (He.ga K "SINGLES") (SG.map V.str) ∧ tyV K "tuple" (.ref (He.ga K "SINGLES")) H
  sm : ∀ H, SqT K H (He.ga K "SUMS") (SM.map V.str) ∧ tyV K "tuple" (.ref (He.ga K "SUMS")) H
  tm : ∀ H, SqT K H (He.ga K "TIMES") (TM.map V.str) ∧ tyV K "tuple" (.ref (He.ga K "TIMES")) H
  parts : ∃ es n, KDict K w (He.ga K "PARTS") es n
  spans : ∃ es n, KDict K w (He.ga K "SPANS") es n
  part : ∀ r ∈ PT, ∃ t, PySem.W.nsIn K (He.ga K "PARTS") r.1 = some (some (.ref t)) ∧ ∀ H, SqT K H t (r.2.map V.str)
  span : ∀ r ∈ ST, ∃ t, PySem.W.nsIn K (He.ga K "SPANS") r.1 = some (some (.ref t)) ∧ ∀ H, SqT K H t [.int r.2.1, .int r.2.2]
  odd : ∀ x ∈ odd, PySem.W.nsIn K (He.ga K "PARTS") x = some none
theorem con_of {w : World} {K : PySem.W.Frag} {mg : Str → Option Value} {odd : List Str} (h : conB odd K = true) (g1 : mg "SINGLES" = some (.ref (He.ga K "SINGLES"))) (g2 : mg "SUMS" = some (.ref (He.ga K "SUMS"))) (g3 : mg "TIMES" = some (.ref (He.ga K "TIMES")))
    (g4 : mg "PARTS" = some (.ref (He.ga K "PARTS"))) (g5 : mg "SPANS" = some (.ref (He.ga K "SPANS"))) (p : ∃ es n, KDict K w (He.ga K "PARTS") es n) (s : ∃ es n, KDict K w (He.ga K "SPANS") es n) : Con w K mg odd := by
  obtain ⟨h1, h⟩ := He.ba h
  obtain ⟨h2, h⟩ := He.ba h
  obtain ⟨h3, h⟩ := He.ba h
  obtain ⟨h4, h⟩ := He.ba h
  obtain ⟨h5, h6⟩ := He.ba h
  refine ⟨g1, g2, g3, g4, g5, fun H => ?_, fun H => ?_, fun H => ?_, p, s, fun r hr => ?_, fun r hr => ?_, fun x hx => ?_⟩
  · rw [← dStr_v (K := K)]
    exact tupAt_ok h1 H
  · rw [← dStr_v (K := K)]
    exact tupAt_ok h2 H
  · rw [← dStr_v (K := K)]
    exact tupAt_ok h3 H
  · obtain ⟨t, e, q⟩ := rowB_ok (List.all_eq_true.mp h4 r hr)
    refine ⟨t, e, fun H => ?_⟩
    rw [← dStr_v (K := K)]
    exact q H
  · obtain ⟨t, e, q⟩ := rowB_ok (List.all_eq_true.mp h5 r hr)
    exact ⟨t, e, fun H => q H⟩
  · exact He.eqO_ok (List.all_eq_true.mp h6 x hx)
end Bm
set_option maxHeartbeats 400000
namespace Bm
open PySem PySem.Spec PyProof.Rows L2
theorem Same.mut {H H' : Hp} {p : Addr} {o : HO} (e : Same H H') (h : H p = none) : Same H (upd H' p o) := fun a u ha => by
  rw [upd_ne (ne_of_none ha h)]
  exact e a u ha
theorem walk_zipT {K : PySem.W.Frag} {a b : Addr} {xs ys : List V} {n : Nat} (hn : n = min xs.length ys.length) : Walk (RZ.ItzT K a b) n (fun H => SqT K H a xs ∧ SqT K H b ys) (YPair (fun i => xs[i]?) (fun i => ys[i]?)) := by
  subst hn
  constructor
  · intro n _ ln g
    exact ⟨xs, ys, xs[n]'(by omega), ys[n]'(by omega), g.1, g.2, List.getElem?_eq_getElem (by omega), List.getElem?_eq_getElem (by omega)⟩
  · exact fun _ g => ⟨xs, ys, g.1, g.2, by omega⟩
  · rintro n G v G2 _ g ⟨T, p, r, e1, e2, e3, a1, a2⟩
    exact ⟨T, p, r, e1, e2, e3, a1 xs g.1, a2 ys g.2⟩
/-! in, of a tuple of any data -/
def rInT (K : PySem.W.Frag) : R2 := fun x y H Q => ∃ d ds, Dp K H x d ∧ Dp K H y (.tuple ds) ∧ SeqAt.shaped d = true ∧ SeqAt.shaped (.tuple ds) = true ∧ Q (.bl (ds.any fun z => PyData.eqv z d)) H
theorem op_inT {X : Cx} (hu : X.A.units + 65 < cLine) : OpR X (compareOp .In) (rInT X.K) := by
  intro pn s0 σ G a b va vb Q J ra rb ⟨d, ds, g1, g2, sh1, sh2, q⟩
  have w1 := Dp.reads J d a va g1 ra
  have w2 := Dp.reads J (.tuple ds) b vb g2 rb
  exact SeqAt.in_tuple_reads w2.choose_spec w1.choose_spec (SeqAt.canLay_of_shaped sh2) (SeqAt.canLay_of_shaped sh1) (room_in_shaped sh1 hu) ⟨.bl _, G, J, rfl, q⟩
/-- in: flat items, or any data in a tuple -/
def rIn2 (K : PySem.W.Frag) : R2 := fun x y H Q => rIn K false x y H Q ∨ rInT K x y H Q
theorem op_in2 {X : Cx} (hu : X.A.units + 65 < cLine) : OpR X (compareOp .In) (rIn2 X.K) := by
  intro pn s0 σ G a b va vb Q J ra rb w
  exact w.elim (fun w => op_in_seq pn s0 σ G a b va vb Q J ra rb w) (fun w => op_inT hu pn s0 σ G a b va vb Q J ra rb w)
theorem hu65 {A : Around} {k : Nat} (hr : Room k A) : A.units + 65 < cLine := by
  have := hr.un
  omega
/-! a value's kind -/
inductive Knd (K : PySem.W.Frag) (H : Hp) : V → String → Prop
  | int (i : Int) : Knd K H (.int i) "int"
  | bl (b : Bool) : Knd K H (.bl b) "bool"
  | str (x : Str) : Knd K H (.str x) "str"
  | non : Knd K H .non "NoneType"
  | tup {a : Addr} {xs : List V} (h : SqT K H a xs) : Knd K H (.ref a) "tuple"
  | lst {a : Addr} {xs : List V} (h : SqL K H a xs) : Knd K H (.ref a) "list"
theorem Knd.ty {K : PySem.W.Frag} {H : Hp} {v : V} {t : String} (h : Knd K H v t) : TyX K H v (.type t) := by
  cases h with
  | int i => exact .base (.int i)
  | bl b => exact .base (.bl b)
  | str x => exact .base (.str x)
  | non => exact .base .non
  | tup h =>
    rcases h with (h | ⟨o, h⟩) | ⟨o, its, n, h1, h2, _⟩
    · exact .base (.tup h)
    · exact .fTuple h
    · exact .kTuple h1 h2
  | lst h =>
    rcases h with (h | ⟨o, h⟩) | ⟨o, its, n, h1, h2, _⟩
    · exact .base (.lst h)
    · exact .base (.frz h)
    · exact .kList h1 h2
/-- isinstance(x, t) -/
theorem isi {K : PySem.W.Frag} {H : Hp} {v : V} {t c : String} {b : Bool} {Q : VK} (h : Knd K H v t) (hk : kitB t c = some b) (q : Q (.bl b) H) : rIsi K [v, .ty c] H Q :=
  ⟨_, _, _, _, _, rfl, .ty c, h.ty, kit_ty hk, q⟩
end Bm
namespace Bm
open PySem PySem.Spec PyProof.Rows L2
/-! slices -/
theorem cut_tail (x : V) (r : List V) : cutV (x :: r) (some 1) none = r := by
  have e : HT.sIx (x :: r).length 0 (some ((1 : Nat) : Int)) = 1 := by
    rw [HT.sIx_nat, List.length_cons]
    omega
  have e1 : HT.sIx (x :: r).length 0 (some 1) = 1 := e
  unfold cutV
  rw [e1, HT.sIx_none, List.length_cons]
  show (r.take (r.length + 1 - 1)) = r
  rw [Nat.add_sub_cancel, List.take_length]
theorem not_whole_tail (x : V) (r : List V) : ¬ (HT.sIx (x :: r).length 0 (some 1) = 0 ∧ HT.sIx (x :: r).length (x :: r).length none = (x :: r).length) := by
  have e : HT.sIx (x :: r).length 0 (some ((1 : Nat) : Int)) = 1 := by
    rw [HT.sIx_nat, List.length_cons]
    omega
  intro z
  have e1 : HT.sIx (x :: r).length 0 (some 1) = 1 := e
  rw [e1] at z
  cases z.1
theorem at0 {x : V} {r : List V} : atI (x :: r) 0 = some x := atI_nat (j := 0) rfl
theorem take_succ' {α : Type} {l : List α} {i : Nat} {x : α} (h : l[i]? = some x) : l.take (i + 1) = l.take i ++ [x] := by
  rw [List.take_succ, h]
  rfl
end Bm
set_option maxHeartbeats 400000
namespace Bm
open PySem PySem.Spec PyProof.Rows L2
/-! the errors that bear no number -/
def five : List Str := ["BadDeed", "BadReach", "NoDeed", "BadCount", "NoMend"]
def nine : List Str := ["BadDeed", "BadReach", "NoDeed", "BadCount", "NoMend", "BadImage", "BadGiven", "BadList", "BadRow"]
def kind1B (K : PySem.W.Frag) (x : Str) : Bool :=
  He.eqO (PySem.W.findIn K (.ref (He.ga K x)) "__getattribute__") (some (some (.builtin "BaseException.__getattribute__"))) && (He.eqO (PySem.W.findIn K (.ref (He.ga K x)) "__getattr__") (some none) &&
  (decide (PySem.W.subIn K (.ref (He.ga K x)) (.type "BaseException") = some true) && (PySem.W.hasDictIn K (He.ga K x) && (He.eqO (PySem.W.findIn K (.ref (He.ga K x)) "__class__") (some (some (.builtin "object.__class__"))) &&
  (He.eqO (PySem.W.specialIn K (.builtin "object.__class__") "__get__") (some (some (.builtin "getset_descriptor.__get__"))) && (decide (PySem.W.takesIn K (.builtin "object.__class__") = some true) && (decide (PySem.W.mroIn K (He.ga K x) (.type "object") = some true) &&
  (decide (PySem.W.exmOne K (.ref (He.ga K x)) (.ref (He.ga K "MillError")) = some true) && ((nine.all fun y => decide (PySem.W.kitOne K (.ref (He.ga K x)) (.ref (He.ga K y)) = some (decide (x = y)))) &&
  decide (PySem.W.kitOne K (.ref (He.ga K x)) (.type "ValueError") = some true))))))))))
def kindB (K : PySem.W.Frag) : Bool := five.all fun x => kind1B K x
structure Kind1 (K : PySem.W.Frag) (x : Str) : Prop where
  c : ExcC K (He.ga K x)
  m : PySem.W.exmOne K (.ref (He.ga K x)) (.ref (He.ga K "MillError")) = some true
  i : ∀ y ∈ nine, PySem.W.kitOne K (.ref (He.ga K x)) (.ref (He.ga K y)) = some (decide (x = y))
  v : PySem.W.kitOne K (.ref (He.ga K x)) (.type "ValueError") = some true
theorem kind_of {K : PySem.W.Frag} (h : kindB K = true) : ∀ x ∈ five, Kind1 K x := fun x hx => by
  have h : kind1B K x = true := List.all_eq_true.mp h x hx
  obtain ⟨h1, h⟩ := He.ba h
  obtain ⟨h2, h⟩ := He.ba h
  obtain ⟨h3, h⟩ := He.ba h
  obtain ⟨h4, h⟩ := He.ba h
  obtain ⟨h5, h⟩ := He.ba h
  obtain ⟨h6, h⟩ := He.ba h
  obtain ⟨h7, h⟩ := He.ba h
  obtain ⟨h8, h⟩ := He.ba h
  obtain ⟨h9, h⟩ := He.ba h
  obtain ⟨h10, h11⟩ := He.ba h
  exact ⟨⟨He.eqO_ok h1, He.eqO_ok h2, of_decide_eq_true h3, h4, He.eqO_ok h5, He.eqO_ok h6, of_decide_eq_true h7, of_decide_eq_true h8⟩, of_decide_eq_true h9, fun y hy => of_decide_eq_true (List.all_eq_true.mp h10 y hy), of_decide_eq_true h11⟩
end Bm
set_option maxHeartbeats 800000
namespace Bm
open PySem PySem.Spec PyProof.Rows L2
section
variable {X : Cx}
theorem op_inDk (hu : X.A.units + 1 < cLine) : OpR X (compareOp .In) (fun y x H Q => ∃ a o, x = .ref a ∧ DGet H a y o ∧ Q (.bl o.isSome) H) := by
  intro pins s σ H y x v u Q I ry rx h
  obtain ⟨a, o, rfl, g, q⟩ := h
  cases rx
  exact d_in hu I g ry fun s' I' => ⟨.bl o.isSome, H, I', rfl, q⟩
theorem op_notInDk (hu : X.A.units + 1 < cLine) : OpR X (compareOp .NotIn) (fun y x H Q => ∃ a o, x = .ref a ∧ DGet H a y o ∧ Q (.bl (!o.isSome)) H) := by
  intro pins s σ H y x v u Q I ry rx h
  obtain ⟨a, o, rfl, g, q⟩ := h
  cases rx
  exact d_notIn hu I g ry fun s' I' => ⟨.bl (!o.isSome), H, I', rfl, q⟩
/-- d.update(o), o another dict -/
def rDupd : V → List V → Hp → VK → Prop := fun x xs H Q => ∃ (d o : Addr) (kvs more : List (Key × V)), x = .ref d ∧ xs = [.ref o] ∧ d ≠ o ∧ H d = some (.dK kvs) ∧ H o = some (.dK more) ∧ kvs.length + more.length ≤ 1000 ∧ Q .non (upd H d (.dK (mergeK kvs more)))
theorem mt_dupd : MtR X "dict.update" rDupd := by
  intro pins s σ H x xs v us Q I rx rxs h
  obtain ⟨d, o, kvs, more, rfl, rfl, hne, hd, ho, hl, q⟩ := h
  cases rx
  obtain ⟨u, rfl, ru⟩ := rxs.one
  cases ru
  obtain ⟨z1, y1, vs1, rel1, dd1⟩ := dk_of I.hok hd
  obtain ⟨z2, y2, vs2, rel2, dd2⟩ := dk_of I.hok ho
  have e1 := rel1.length
  have e2 := rel2.length
  have hs : (1000 : Nat) ≤ sizeLine := by decide
  refine call_meetsIn PySem.F.slot_dict_update dd1.typeIs PySem.F.entry_dict_update (PySem.F.args_dict_update_2 _ _) (meets_dict_update (mixKind X.prog X.w) d o hne y2)
    ⟨vs1, vs2, dd1, dd2, by omega, fun h' dd' _ sb => ⟨.non, _, ?_, rfl, q⟩⟩
  have he : ∃ q, h'.get? d = some q := let ⟨q, _, _, hq, _⟩ := dd'; ⟨q, hq⟩
  exact d_write I (by rw [hd]; exact True.intro) sb he (dk_new (Nat.le_trans (length_mergeK more kvs) (by omega)) y1 (rel2.merge rel1) dd')
end
end Bm
set_option maxHeartbeats 800000
namespace Bm
open PySem PySem.Spec PyProof.Rows L2
/-! a dict from words to lists of spans -/
/-- all but p stays -/
def But (p : Addr) (H H' : Hp) : Prop := ∀ b o, b ≠ p → H b = some o → H' b = some o
theorem But.of {p : Addr} {H H' : Hp} (e : Same H H') : But p H H' := fun b o _ q => e b o q
theorem But.upd {p : Addr} {H : Hp} {o : HO} : But p H (upd H p o) := fun b u n q => by rw [upd_ne n]; exact q
theorem But.tup {K : PySem.W.Frag} {H H' : Hp} {p a : Addr} {kvs : List (Key × V)} {xs : List V} (e : But p H H') (hp : H p = some (.dK kvs)) (h : SqT K H a xs) : SqT K H' a xs := by
  rcases h with (h | ⟨o, h⟩) | h
  · exact .inl (.inl (e _ _ (fun z => by rw [z, hp] at h; cases h) h))
  · exact .inl (.inr ⟨o, e _ _ (fun z => by rw [z, hp] at h; cases h) h⟩)
  · exact .inr h
theorem But.lst {K : PySem.W.Frag} {H H' : Hp} {p a : Addr} {kvs : List (Key × V)} {xs : List V} (e : But p H H') (hp : H p = some (.dK kvs)) (h : SqL K H a xs) : SqL K H' a xs := by
  rcases h with (h | ⟨o, h⟩) | h
  · exact .inl (.inl (e _ _ (fun z => by rw [z, hp] at h; cases h) h))
  · exact .inl (.inr ⟨o, e _ _ (fun z => by rw [z, hp] at h; cases h) h⟩)
  · exact .inr h
/-- a list of spans -/
inductive Spans (K : PySem.W.Frag) (H : Hp) : List V → List (Int × Int) → Prop
  | nil : Spans K H [] []
  | cons {t : Addr} {lo hi : Int} {vs : List V} {rs : List (Int × Int)} : SqT K H t [.int lo, .int hi] → Spans K H vs rs → Spans K H (.ref t :: vs) ((lo, hi) :: rs)
theorem Spans.map {K : PySem.W.Frag} {H H' : Hp} (f : ∀ a xs, SqT K H a xs → SqT K H' a xs) : ∀ {vs : List V} {rs : List (Int × Int)}, Spans K H vs rs → Spans K H' vs rs
  | _, _, .nil => .nil
  | _, _, .cons h t => .cons (f _ _ h) (t.map f)
theorem Spans.len {K : PySem.W.Frag} {H : Hp} : ∀ {vs : List V} {rs : List (Int × Int)}, Spans K H vs rs → vs.length = rs.length
  | _, _, .nil => rfl
  | _, _, .cons _ t => congrArg Nat.succ t.len
theorem Spans.at_ {K : PySem.W.Frag} {H : Hp} : ∀ {vs : List V} {rs : List (Int × Int)} {i : Nat} {v : V}, Spans K H vs rs → vs[i]? = some v → ∃ t lo hi, v = .ref t ∧ rs[i]? = some (lo, hi) ∧ SqT K H t [.int lo, .int hi]
  | _, _, i, v, .nil, h => by simp at h
  | _, _, 0, v, .cons (t := t) (lo := lo) (hi := hi) h1 _, h => ⟨t, lo, hi, (Option.some.inj h).symm, rfl, h1⟩
  | _, _, i + 1, v, .cons _ h2, h => Spans.at_ (i := i) h2 h
def Row (K : PySem.W.Frag) (H : Hp) (v : V) (rs : List (Int × Int)) : Prop := ∃ l vs, v = .ref l ∧ SqL K H l vs ∧ Spans K H vs rs
theorem Row.map {K : PySem.W.Frag} {H H' : Hp} {v : V} {rs : List (Int × Int)} (f : ∀ a xs, SqT K H a xs → SqT K H' a xs) (g : ∀ a xs, SqL K H a xs → SqL K H' a xs) (h : Row K H v rs) : Row K H' v rs := by
  obtain ⟨l, vs, e, h1, h2⟩ := h
  exact ⟨l, vs, e, g _ _ h1, h2.map f⟩
inductive Tab (K : PySem.W.Frag) (H : Hp) : List (Key × V) → List (Str × List (Int × Int)) → Prop
  | nil : Tab K H [] []
  | cons {z : Str} {v : V} {rs : List (Int × Int)} {kvs : List (Key × V)} {T : List (Str × List (Int × Int))} : Row K H v rs → Tab K H kvs T → Tab K H ((.inr z, v) :: kvs) ((z, rs) :: T)
theorem Tab.map {K : PySem.W.Frag} {H H' : Hp} (f : ∀ a xs, SqT K H a xs → SqT K H' a xs) (g : ∀ a xs, SqL K H a xs → SqL K H' a xs) : ∀ {kvs : List (Key × V)} {T : List (Str × List (Int × Int))}, Tab K H kvs T → Tab K H' kvs T
  | _, _, .nil => .nil
  | _, _, .cons h t => .cons (h.map f g) (t.map f g)
theorem Tab.same {K : PySem.W.Frag} {H H' : Hp} {kvs : List (Key × V)} {T : List (Str × List (Int × Int))} (e : Same H H') (h : Tab K H kvs T) : Tab K H' kvs T := h.map (fun _ _ q => Same.tup e q) (fun _ _ q => e.seq q)
theorem Tab.but {K : PySem.W.Frag} {H H' : Hp} {p : Addr} {l : List (Key × V)} {kvs : List (Key × V)} {T : List (Str × List (Int × Int))} (e : But p H H') (hp : H p = some (.dK l)) (h : Tab K H kvs T) : Tab K H' kvs T := h.map (fun _ _ q => e.tup hp q) (fun _ _ q => e.lst hp q)
theorem Tab.app {K : PySem.W.Frag} {H : Hp} {k2 : List (Key × V)} {T2 : List (Str × List (Int × Int))} (h2 : Tab K H k2 T2) : ∀ {k1 : List (Key × V)} {T1 : List (Str × List (Int × Int))}, Tab K H k1 T1 → Tab K H (k1 ++ k2) (T1 ++ T2)
  | _, _, .nil => h2
  | _, _, .cons h t => .cons h (Tab.app h2 t)
theorem Tab.keys {K : PySem.W.Frag} {H : Hp} : ∀ {kvs : List (Key × V)} {T : List (Str × List (Int × Int))}, Tab K H kvs T → kvs.map (·.1) = T.map fun e => (Sum.inr e.1 : Key)
  | _, _, .nil => rfl
  | _, _, .cons h t => by rw [List.map_cons, List.map_cons, t.keys]
theorem Tab.look {K : PySem.W.Frag} {H : Hp} (z : Str) : ∀ {kvs : List (Key × V)} {T : List (Str × List (Int × Int))}, Tab K H kvs T → match T.lookup z with
    | some rs => ∃ v, valV kvs (.inr z) = some v ∧ Row K H v rs
    | none => valV kvs (.inr z) = none
  | _, _, .nil => rfl
  | _, _, .cons (z := y) (v := v) (rs := rs) (kvs := kvs) (T := T) h t => by
    rw [List.lookup_cons]
    by_cases e : y = z
    · subst e
      rw [beq_self_eq_true]
      exact ⟨v, valV_pos rfl, h⟩
    · have e2 : (z == y) = false := by
        refine beq_eq_false_iff_ne.mpr fun q => e q.symm
      rw [e2]
      have ne : ¬ ((Sum.inr y : Key), v).1 = Sum.inr z := fun q => e (Sum.inr.inj q)
      have := t.look z
      rw [valV_neg ne]
      exact this
theorem merge_new : ∀ {more kvs : List (Key × V)}, ((kvs ++ more).map (·.1)).Nodup → mergeK kvs more = kvs ++ more
  | [], kvs, _ => by simp [mergeK]
  | p :: more, kvs, h => by
    have h1 : valV kvs p.1 = none := by
      cases q : valV kvs p.1 with
      | none => rfl
      | some v =>
        have m := valV_in q
        rw [List.map_append, List.nodup_append] at h
        exact absurd rfl (h.2.2 _ m _ (List.mem_map.mpr ⟨p, List.mem_cons_self .., rfl⟩))
    show mergeK (putK kvs p.1 p.2) more = _
    rw [putK_new p.2 h1, merge_new (by simpa using h)]
    simp
theorem Tab.merge {K : PySem.W.Frag} {H : Hp} {k1 k2 : List (Key × V)} {T1 T2 : List (Str × List (Int × Int))} (h1 : Tab K H k1 T1) (h2 : Tab K H k2 T2) (nd : ((T1 ++ T2).map (·.1)).Nodup) : mergeK k1 k2 = k1 ++ k2 ∧ Tab K H (k1 ++ k2) (T1 ++ T2) := by
  have t := Tab.app h2 h1
  refine ⟨merge_new ?_, t⟩
  rw [t.keys, List.nodup_iff_pairwise_ne, List.pairwise_map]
  rw [List.nodup_iff_pairwise_ne, List.pairwise_map] at nd
  exact nd.imp fun h q => h (Sum.inr.inj q)
theorem Tab.len {K : PySem.W.Frag} {H : Hp} {kvs : List (Key × V)} {T : List (Str × List (Int × Int))} (h : Tab K H kvs T) : kvs.length = T.length := by
  have := congrArg List.length h.keys
  simpa using this
theorem Same.none {H H' : Hp} {p : Addr} (e : Same H H') (h : H' p = none) : H p = none := by
  cases q : H p with
  | none => rfl
  | some o =>
    rw [e p o q] at h
    cases h
/-- the table while it grows: H where it began; pr holds what a deed has behind its word, pg the span of a register -/
structure Kst (K : PySem.W.Frag) (H : Hp) (pd pr pg : Addr) (r : List V) (H' : Hp) (kvs : List (Key × V)) (T : List (Str × List (Int × Int))) : Prop where
  same : Same H H'
  rest : SqT K H' pr r
  g : SqT K H' pg [.int 0, .int 7]
  d : H' pd = some (.dK kvs)
  tab : Tab K H' kvs T
  new : H pd = none
section
variable {K : PySem.W.Frag} {H H' H'' : Hp} {pd pr pg p : Addr} {r : List V} {kvs more : List (Key × V)} {T U : List (Str × List (Int × Int))}
theorem Kst.add (k : Kst K H pd pr pg r H' kvs T) (e : Same H' H'') : Kst K H pd pr pg r H'' kvs T := ⟨Same.trans k.same e, Same.tup e k.rest, Same.tup e k.g, e _ _ k.d, k.tab.same e, k.new⟩
theorem Kst.put (k : Kst K H pd pr pg r H' kvs T) (hp : H' p = some (.dK [])) (hn : H p = none) (ne : pd ≠ p) (u : Tab K H' more U) : Kst K H pd pr pg r (upd H' p (.dK more)) kvs T ∧ Tab K (upd H' p (.dK more)) more U := by
  have b : But p H' (upd H' p (.dK more)) := But.upd
  exact ⟨⟨Same.mut k.same hn, b.tup hp k.rest, b.tup hp k.g, b _ _ ne k.d, k.tab.but b hp, k.new⟩, u.but b hp⟩
theorem Kst.join (k : Kst K H pd pr pg r H' kvs T) (u : Tab K H' more U) (nd : ((T ++ U).map (·.1)).Nodup) : mergeK kvs more = kvs ++ more ∧ Kst K H pd pr pg r (upd H' pd (.dK (kvs ++ more))) (kvs ++ more) (T ++ U) := by
  obtain ⟨e, t⟩ := k.tab.merge u nd
  have b : But pd H' (upd H' pd (.dK (kvs ++ more))) := But.upd
  exact ⟨e, Same.mut k.same k.new, b.tup k.d k.rest, b.tup k.d k.g, upd_same, t.but b k.d, k.new⟩
theorem merge0 {T : List (Str × List (Int × Int))} (u : Tab K H' more T) (nd : (T.map (·.1)).Nodup) : mergeK [] more = more := (Tab.merge (k1 := []) (T1 := []) .nil u nd).1
theorem row0 {l : Addr} (h : SqL K H' l []) : Row K H' (.ref l) [] := ⟨l, [], rfl, h, .nil⟩
end
end Bm
set_option maxHeartbeats 800000
/-! a tuple and a list, side by side -/
namespace Bm
open PySem PySem.Spec PyProof.Rows L2
def ItM (K : PySem.W.Frag) (l r : Addr) : It :=
  ⟨fun n H => ∃ (ls rs : List V) (p q : V), SqT K H l ls ∧ SqL K H r rs ∧ ls[n]? = some p ∧ rs[n]? = some q,
    fun n H v H2 => ∃ T p q, v = .ref T ∧ H T = none ∧ H2 = upd H T (.tup [p, q]) ∧ (∀ ls, SqT K H l ls → ls[n]? = some p) ∧ ∀ rs, SqL K H r rs → rs[n]? = some q,
    fun n H => ∃ ls rs : List V, SqT K H l ls ∧ SqL K H r rs ∧ n ≤ ls.length ∧ n ≤ rs.length ∧ (n = ls.length ∨ n = rs.length)⟩
theorem sep_of {z TI TO j1 j2 l r : Addr} (Z : ZipApart z TI TO j1 j2 l r) : ZipSep2 z TI TO j1 j2 [j1, l] [j2, r] where
  TIz := Z.TIz
  TOz := Z.TOz
  TITO := Z.TITO
  TIi1 := Z.TIi1
  mem1 := List.mem_cons_self ..
  zf1 := fun w => by rcases List.mem_cons.mp w with e | w; exact Z.i1z e.symm; exact Z.l1z (List.mem_singleton.mp w).symm
  Tf1 := fun w => by rcases List.mem_cons.mp w with e | w; exact Z.TOi1 e; exact Z.l1TO (List.mem_singleton.mp w).symm
  TIi2 := Z.TIi2
  mem2 := List.mem_cons_self ..
  zf2 := fun w => by rcases List.mem_cons.mp w with e | w; exact Z.i2z e.symm; exact Z.l2z (List.mem_singleton.mp w).symm
  Tf2 := fun w => by rcases List.mem_cons.mp w with e | w; exact Z.TOi2 e; exact Z.l2TO (List.mem_singleton.mp w).symm
  sep1_2 := fun w => by rcases List.mem_cons.mp w with e | w; exact Z.i12 e; exact Z.l2i1 (List.mem_singleton.mp w).symm
  sep2_1 := fun w => by rcases List.mem_cons.mp w with e | w; exact Z.i12 e.symm; exact Z.l1i2 (List.mem_singleton.mp w).symm
theorem five_of {z TI TO j1 j2 c : Addr} (w : c ∈ [z, TI, TO, j1, j2]) : c = z ∨ c = TI ∨ c = TO ∨ c = j1 ∨ c = j2 := by simpa using w
theorem turnM {P : Program} {W : World} {K : PySem.W.Frag} {es : List Expr} {n0 : Nat} {tp : Pos} {l r z TI TO j1 j2 : Addr} (Z : ZipApart z TI TO j1 j2 l r) :
    Turn P W K (.Tuple es n0 tp) (ItM K l r) [z, TI, TO, j1, j2] z (fun n g => IsZip g z TI TO .none ∧ IsPair g TI (.ref j1) (.ref j2) ∧ (∃ p q, IsPair g TO p q) ∧ g.IsTupleIter j1 l n ∧ g.IsListIter j2 r n) where
  mem := List.mem_cons_self ..
  obj := fun n g st c w => by
    obtain ⟨gz, gTI, ⟨p, q, gTO⟩, ⟨u1, f1, _, d1⟩, ⟨u2, f2, _, d2⟩⟩ := st
    rcases five_of w with e | e | e | e | e <;> subst e
    · exact ⟨_, gz, fun v z => nomatch z⟩
    · exact ⟨_, gTI, fun v z => nomatch z⟩
    · exact ⟨_, gTO, fun v z => nomatch z⟩
    · exact ⟨u1, f1, fun v z => by rw [d1] at z; cases z⟩
    · exact ⟨u2, f2, fun v z => by rw [d2] at z; cases z⟩
  keep := fun n g g' st k => by
    obtain ⟨gz, gTI, ⟨p, q, gTO⟩, t1, t2⟩ := st
    exact ⟨k z (by simp) _ gz, k TI (by simp) _ gTI, ⟨p, q, k TO (by simp) _ gTO⟩, t1.at fun u z => k j1 (by simp) u z, t2.at fun u z => k j2 (by simp) u z⟩
  item := by
    intro X eP eW eK hc n pins s σ H E I hf st hg
    subst eP eW eK
    obtain ⟨gz, gTI, ⟨p0, q0, gTO⟩, t1, t2⟩ := st
    obtain ⟨ls, rs, p, q, sl, sr, ep, eq⟩ := hg
    obtain ⟨its, rv, pt, _⟩ := I.tuple sl
    obtain ⟨jts, rw_, pl, _⟩ := I.list sr
    obtain ⟨u, hu, ru⟩ := rv.get ep
    obtain ⟨v, hv, rv2⟩ := rw_.get eq
    have nu : n < its.toArray.size := by simpa using (List.getElem?_eq_some_iff.mp hu).1
    have nv : n < jts.toArray.size := by simpa using (List.getElem?_eq_some_iff.mp hv).1
    have lz : z < s.heap.objs.size := Heap.lt_size gz
    have hh := I.ok.hd hc
    have D1 := Draws.tuple (prog := X.prog) (w := X.w) (A := X.A.in1) hh j1 l Z.l1i1 its.toArray
    have D2 := Draws.list (prog := X.prog) (w := X.w) (A := X.A.in1) hh j2 r Z.l2i2 jts.toArray
    refine wpAny_pyNext_zipD2_item (sep_of Z) D1 D2 gz gTI gTO ⟨t1, pt⟩ ⟨t2, pl.isList⟩ nu nv fun x1 x2 h' tk y1 y2 z' TO' s1' s2' hT hsz hk => ?_
    have e1 : x1 = u := by
      have y1' : its.toArray[n]? = some x1 := y1
      have hu' : its.toArray[n]? = some u := by simpa using hu
      exact Option.some.inj (y1'.symm.trans hu')
    have e2 : x2 = v := by
      have y2' : jts.toArray[n]? = some x2 := y2
      have hv' : jts.toArray[n]? = some v := by simpa using hv
      exact Option.some.inj (y2'.symm.trans hv')
    subst e1 e2
    refine ⟨_, rfl, wpAny_letOwnedTupleGo_zip (s := { s with heap := h', toks := tk }) z' fun h2 z2 sb => ?_⟩
    have far : ∀ c, c ∉ [z, TI, TO, j1, j2] → ∀ o, s.heap.get? c = some o → h2.get? c = some o := fun c w o e =>
      (sb.2 c fun m => w (by simp [m])).trans (hk c o (fun m => w (by simp [m])) (fun m => w (by simp [m])) (fun m => w (by simp [m])) (fun m => w (by simp [m])) e)
    have hT2 : h2.get? s.heap.objs.size = some { cls := .type "tuple", data := .seq #[x1, x2] } := (sb.2 _ (Nat.ne_of_gt lz)).trans hT
    have fresh : ObjOk X.prog X.w (upd H s.heap.objs.size (.tup [p, q])) h2 s.heap.objs.size (.tup [p, q]) :=
      ⟨Nat.le_trans (by decide : 2 ≤ 100000) (by decide), [x1, x2], .cons ru (.cons rv2 .nil), ⟨_, hT2, rfl, _, rfl⟩⟩
    have I2 : Inv X pins σ (upd H s.heap.objs.size (.tup [p, q])) { s with heap := h2, toks := tk } :=
      I.turnedNew (t' := tk) (ch := [z, TI, TO, j1, j2]) (fun c o w e => far c w o e) hf (Nat.le_refl _) fresh
    refine ⟨.ref s.heap.objs.size, _, I2, rfl, ⟨_, p, q, rfl, I.hok.fresh (Nat.le_refl _), rfl, fun m hm => by rw [I.tuple_inj hm sl]; exact ep, fun m hm => by rw [I.list_inj hm sr]; exact eq⟩, ⟨z2, ?_, ⟨x1, x2, ?_⟩, ?_, ?_⟩, fun c w => ?_⟩
    · exact (sb.2 _ Z.TIz).trans (hk _ _ Z.TIz Z.TITO Z.TIi1 Z.TIi2 gTI)
    · exact (sb.2 _ Z.TOz).trans TO'
    · exact s1'.1.at fun o m => (sb.2 _ Z.i1z).trans m
    · exact s2'.1.at fun o m => (sb.2 _ Z.i2z).trans m
    · have lt : c < s.heap.objs.size := by
        rcases five_of w with e | e | e | e | e <;> rw [e]
        · exact lz
        · exact Heap.lt_size gTI
        · exact Heap.lt_size gTO
        · obtain ⟨_, m, _⟩ := t1; exact Heap.lt_size m
        · obtain ⟨_, m, _⟩ := t2; exact Heap.lt_size m
      rw [upd_ne (Nat.ne_of_lt lt)]
      exact (hf c w).1
  done := by
    intro X eP eW eK hc n pins s σ H E I hf st hg
    subst eP eW eK
    obtain ⟨gz, gTI, ⟨p0, q0, gTO⟩, t1, t2⟩ := st
    obtain ⟨ls, rs, sl, sr, n1, n2, n3⟩ := hg
    obtain ⟨its, rv, pt, _⟩ := I.tuple sl
    obtain ⟨jts, rw_, pl, _⟩ := I.list sr
    have m1 : its.toArray.size = ls.length := by simp [rv.length]
    have m2 : jts.toArray.size = rs.length := by simp [rw_.length]
    have hh := I.ok.hd hc
    have D1 := Draws.tuple (prog := X.prog) (w := X.w) (A := X.A.in1) hh j1 l Z.l1i1 its.toArray
    have D2 := Draws.list (prog := X.prog) (w := X.w) (A := X.A.in1) hh j2 r Z.l2i2 jts.toArray
    refine wpAny_pyNext_zipD2_end (sep_of Z) D1 D2 gz gTI gTO ⟨t1, pt⟩ ⟨t2, pl.isList⟩ (by omega) (by omega) (by omega) fun h' tk hk => ⟨rfl, ?_⟩
    exact I.turnedL (t' := tk) (ch := [z, TI, TO, j1, j2]) (fun c o w e => hk c o (fun m => w (by simp [m])) (fun m => w (by simp [m])) (fun m => w (by simp [m])) (fun m => w (by simp [m])) e) hf
  self := fun A n s Q E st q => wpAny_pyIter_zip st.1 q
def iZipM (K : PySem.W.Frag) (ta : TA) : TI := fun σ H R => ta σ H fun vs H1 => ∃ l r ls rs, vs = [.ref l, .ref r] ∧ SqT K H1 l ls ∧ SqL K H1 r rs ∧ R (ItM K l r) H1
theorem pi_zipM {X : Cx} {e e2 : Expr} {ta : TA} {p pos tp : Pos} {es : List Expr} {n0 : Nat} (hg : Gl X "zip") (hm : X.mg "zip" = none) (ha : PA X [e, e2] ta)
    (star1 : starEach [e, e2] X.env = (false, eval e X.env) :: starEach [e2] X.env := by rfl) (star2 : (backTo pos (starEach [e2] X.env)).any (·.1) = false := by rfl) :
    PI X (.Tuple es n0 tp) (.Call (.Name "zip" p) [e, e2] [] pos) (iZipM X.K ta) := by
  refine ⟨fun pins s σ H R I w => ?_⟩
  refine Call_ (ld_blt I hg hm PyProof.Rows.boot_zip (PyProof.Rows.callWith_type1 (thn (ha.run pos pins s σ H _ I w) fun us s1 ⟨vs, H1, I1, r1, q1⟩ => ?_) star1 star2))
  obtain ⟨l, r, ls, rs, rfl, sl, sr, q⟩ := q1
  cases r1 with
  | cons c1 r1 =>
    cases r1 with
    | cons c2 r1 =>
      cases r1
      cases c1
      cases c2
      have fresh : ∀ c, c ∈ [s1.heap.objs.size + 4, s1.heap.objs.size + 2, s1.heap.objs.size + 3, s1.heap.objs.size, s1.heap.objs.size + 1] → FpOk X pins H1 c := fun c w => by
        have le : s1.heap.objs.size ≤ c := by
          rcases five_of w with e | e | e | e | e <;> rw [e] <;> first | exact Nat.le_refl _ | exact Nat.le_add_right _ _
        exact I1.fpOk le (I1.hok.fresh le)
      obtain ⟨its, rv, pt, _⟩ := I1.tuple sl
      obtain ⟨jts, rw_, pl, _⟩ := I1.list sr
      obtain ⟨o1, f1, _⟩ := id pt
      refine zip_begins2 (begins_tuple l its.toArray) (begins_list r jts.toArray) pt pl.isList fun h' gz gTI gTO b1 b2 _ hk => wpAny_pyIter_zip gz ?_
      have J2 : Inv X pins σ H1 { s1 with heap := h' } := I1.kept (t' := s1.toks) hk
      exact ⟨s1.heap.objs.size + 4, [s1.heap.objs.size + 4, s1.heap.objs.size + 2, s1.heap.objs.size + 3, s1.heap.objs.size, s1.heap.objs.size + 1], _, _, H1, rfl, J2, turnM (PySem.W.ktu_apart s1.heap.objs.size l r (Heap.lt_size f1) pl.lt),
        ⟨gz, gTI, ⟨_, _, gTO⟩, ⟨_, b1, rfl, rfl⟩, ⟨_, b2, rfl, rfl⟩⟩, fresh, q⟩
theorem walk_zipM {K : PySem.W.Frag} {l r : Addr} {xs ys : List V} {n : Nat} (h1 : n = xs.length) (h2 : n = ys.length) : Walk (ItM K l r) n (fun H => SqT K H l xs ∧ SqL K H r ys) (YPair (fun i => xs[i]?) (fun i => ys[i]?)) := by
  refine ⟨fun i _ hi q => ?_, fun _ q => ⟨xs, ys, q.1, q.2, by omega, by omega, by omega⟩, fun i H v H2 _ q y => ?_⟩
  · have m1 : i < xs.length := by omega
    have m2 : i < ys.length := by omega
    exact ⟨xs, ys, xs[i], ys[i], q.1, q.2, by simp [m1], by simp [m2]⟩
  · obtain ⟨T, x, z, e1, e2, e3, e4, e5⟩ := y
    exact ⟨T, x, z, e1, e2, e3, e4 xs q.1, e5 ys q.2⟩
end Bm
set_option maxHeartbeats 0
namespace Bm
open PySem PySem.Spec PyProof.Rows L2
def top (i : Nat) : Stmt := PySem.Challenge.pw_bitmill_k01_deeds_refused_anywhere.main.body.getD i (.Pass ⟨0, 0, 0, 0⟩)
abbrev s_is_number : Stmt := top 13
abbrev s_is_part : Stmt := top 20
abbrev s_is_deed : Stmt := top 21
abbrev s_packed : Stmt := top 22
abbrev s_words_of : Stmt := top 23
abbrev s_going_words : Stmt := top 24
abbrev s_is_reached : Stmt := top 25
abbrev s_only_word : Stmt := top 26
abbrev s_fields : Stmt := top 27
abbrev s__law_start : Stmt := top 29
abbrev s__law_drawn : Stmt := top 30
abbrev s__law_same : Stmt := top 31
abbrev s__law_kind : Stmt := top 32
abbrev s__law_plain : Stmt := top 33
abbrev s__law_pairs : Stmt := top 34
abbrev s__law_times : Stmt := top 35
abbrev s__law_number : Stmt := top 36
abbrev s__law_deed : Stmt := top 37
abbrev s__law_other : Stmt := top 38
abbrev s__law_whole : Stmt := top 39
abbrev s__law_is_deed : Stmt := top 40
abbrev s_law : Stmt := top 41
def d_is_number : He.DefD := ⟨("is_number", none), "is_number", "is_number", defArgs s_is_number, defBody s_is_number, defScope s_is_number, [], []⟩
def d_is_part : He.DefD := ⟨("is_part", none), "is_part", "is_part", defArgs s_is_part, defBody s_is_part, defScope s_is_part, [], []⟩
def d_is_deed : He.DefD := ⟨("is_deed", none), "is_deed", "is_deed", defArgs s_is_deed, defBody s_is_deed, defScope s_is_deed, [], []⟩
def d_packed : He.DefD := ⟨("packed", none), "packed", "packed", defArgs s_packed, defBody s_packed, defScope s_packed, [.int 0], []⟩
def d_words_of : He.DefD := ⟨("words_of", none), "words_of", "words_of", defArgs s_words_of, defBody s_words_of, defScope s_words_of, [], []⟩
def d_going_words : He.DefD := ⟨("going_words", none), "going_words", "going_words", defArgs s_going_words, defBody s_going_words, defScope s_going_words, [], []⟩
def d_is_reached : He.DefD := ⟨("is_reached", none), "is_reached", "is_reached", defArgs s_is_reached, defBody s_is_reached, defScope s_is_reached, [], []⟩
def d_only_word : He.DefD := ⟨("only_word", none), "only_word", "only_word", defArgs s_only_word, defBody s_only_word, defScope s_only_word, [], []⟩
def d_fields : He.DefD := ⟨("fields", none), "fields", "fields", defArgs s_fields, defBody s_fields, defScope s_fields, [.int 0], []⟩
def d__law_start : He.DefD := ⟨("_law_start", none), "_law_start", "_law_start", defArgs s__law_start, defBody s__law_start, defScope s__law_start, [], []⟩
def d__law_drawn : He.DefD := ⟨("_law_drawn", none), "_law_drawn", "_law_drawn", defArgs s__law_drawn, defBody s__law_drawn, defScope s__law_drawn, [], []⟩
def d__law_same : He.DefD := ⟨("_law_same", none), "_law_same", "_law_same", defArgs s__law_same, defBody s__law_same, defScope s__law_same, [], []⟩
def d__law_kind : He.DefD := ⟨("_law_kind", none), "_law_kind", "_law_kind", defArgs s__law_kind, defBody s__law_kind, defScope s__law_kind, [], []⟩
def d__law_plain : He.DefD := ⟨("_law_plain", none), "_law_plain", "_law_plain", defArgs s__law_plain, defBody s__law_plain, defScope s__law_plain, [], []⟩
def d__law_pairs : He.DefD := ⟨("_law_pairs", none), "_law_pairs", "_law_pairs", defArgs s__law_pairs, defBody s__law_pairs, defScope s__law_pairs, [], []⟩
def d__law_times : He.DefD := ⟨("_law_times", none), "_law_times", "_law_times", defArgs s__law_times, defBody s__law_times, defScope s__law_times, [], []⟩
def d__law_number : He.DefD := ⟨("_law_number", none), "_law_number", "_law_number", defArgs s__law_number, defBody s__law_number, defScope s__law_number, [], []⟩
def d__law_deed : He.DefD := ⟨("_law_deed", none), "_law_deed", "_law_deed", defArgs s__law_deed, defBody s__law_deed, defScope s__law_deed, [], []⟩
def d__law_other : He.DefD := ⟨("_law_other", none), "_law_other", "_law_other", defArgs s__law_other, defBody s__law_other, defScope s__law_other, [], []⟩
def d__law_whole : He.DefD := ⟨("_law_whole", none), "_law_whole", "_law_whole", defArgs s__law_whole, defBody s__law_whole, defScope s__law_whole, [], []⟩
def d__law_is_deed : He.DefD := ⟨("_law_is_deed", none), "_law_is_deed", "_law_is_deed", defArgs s__law_is_deed, defBody s__law_is_deed, defScope s__law_is_deed, [], []⟩
def d_law : He.DefD := ⟨("law", none), "law", "law", defArgs s_law, defBody s_law, defScope s_law, [], []⟩
def fnL : List He.DefD := [d_is_number, d_is_part, d_is_deed, d_packed, d_words_of, d_going_words, d_is_reached, d_only_word, d_fields, d__law_start, d__law_drawn, d__law_same, d__law_kind, d__law_plain, d__law_pairs, d__law_times, d__law_number, d__law_deed, d__law_other, d__law_whole, d__law_is_deed, d_law]
def faL : List He.Fa := [.glo "MillError", .glo "BadDeed", .glo "BadReach", .glo "NoDeed", .glo "BadCount", .glo "NoMend", .glo "BadImage", .glo "BadGiven", .glo "BadList", .glo "BadRow", .glo "is_number", .glo "SINGLES", .glo "SUMS", .glo "TIMES", .glo "PARTS", .glo "SPANS", .glo "is_part", .glo "is_deed", .glo "packed", .glo "words_of", .glo "going_words", .glo "is_reached", .glo "only_word", .glo "fields", .glo "_law_start", .glo "_law_drawn", .glo "_law_same", .glo "_law_kind", .glo "_law_plain", .glo "_law_pairs", .glo "_law_times", .glo "_law_number", .glo "_law_deed", .glo "_law_other", .glo "_law_whole", .glo "_law_is_deed", .glo "law", .int "IMAGE_MOST" 200, .free "ValueError", .free "all", .free "bool", .free "dict", .free "int", .free "isinstance", .free "len", .free "list", .free "max", .free "min", .free "range", .free "str", .free "super", .free "tuple", .free "zip", .exc "BadDeed", .exc "BadReach", .exc "NoDeed", .exc "BadCount", .exc "NoMend"]
def tsL : List He.Tab := [(fun K => He.ga K "PARTS", ["halt", "rest", "back", "say", "ask", "push", "pop", "add", "less", "and", "or", "xor", "left", "right", "turn", "plus", "set", "high", "load", "store", "jump", "call"]), (fun K => He.ga K "SPANS", ["reg", "signed six", "six", "seven", "nine", "goal"])]
abbrev R : PySem.W.OpenRow := PySem.W.OpenLaw.row PySem.Challenge.rw_bitmill_k01_deeds_refused_anywhere
def loose0 : List PySem.Str := ["MillError", "BadDeed", "BadReach", "NoDeed", "BadCount", "NoMend", "BadImage", "BadGiven", "BadList", "BadRow", "IMAGE_MOST", "is_number", "SINGLES", "SUMS", "TIMES", "PARTS", "SPANS", "is_part", "is_deed", "packed", "words_of", "going_words", "is_reached", "only_word", "fields", "_law_start", "_law_drawn", "_law_same", "_law_kind", "_law_plain"]
def loose1 : List PySem.Str := ["_law_pairs", "_law_times", "_law_number", "_law_deed", "_law_other", "_law_whole", "_law_is_deed"]
def looseL : List PySem.Str := loose0 ++ loose1
def LAWI : Nat := 41
end Bm
set_option maxHeartbeats 400000
namespace Bm
open PySem PySem.Spec PyProof.Rows L2
section
variable {P : Program} {w : World} {K : PySem.W.Frag} {mg : Str → Option Value} {base : Heap} {f : Addr} {fd : FuncData} {dvs : List V}
abbrev FnP (K : PySem.W.Frag) (x : Str) (st : Stmt) (dvs : List V) (f : Addr) (fd : FuncData) : Prop := FunD K x x (defArgs st) (defBody st) (defScope st) dvs [] f fd
/-! fields -/
theorem or3 {f a b : Int} (hf : 0 ≤ f ∧ f < 16) (ha : 0 ≤ a ∧ a < 8) (hb : 0 ≤ b ∧ b < 8) : Builtin.bitOr (Builtin.bitOr (f * 2 ^ 12) (a * 2 ^ 9)) (b * 2 ^ 6) = f * 4096 + a * 512 + b * 64 := by
  have e0 : f * 2 ^ 12 = (f * 8) * 512 := by omega
  have e1 : Builtin.bitOr (f * 2 ^ 12) (a * 2 ^ 9) = f * 4096 + a * 512 := by
    have e := or_side (x := f) (y := a * 2 ^ 9) 12 (by omega) (by omega) (by omega)
    rw [e]
    omega
  rw [e1]
  have e2 : f * 4096 + a * 512 = (f * 8 + a) * 512 := by omega
  rw [e2, or9 (by omega) (by omega) (by omega)]
  omega
def spFields : Sp := fun vs H Q _ => ∃ f a b : Int, vs = [.int f, .int a, .int b] ∧ (0 ≤ f ∧ f < 16) ∧ (0 ≤ a ∧ a < 8) ∧ (0 ≤ b ∧ b < 8) ∧ Q (.int (f * 4096 + a * 512 + b * 64)) H
theorem sc_fields : FnScope ["form", "first", "second"] ["form", "first", "second"] (defScope s_fields) := ⟨rfl, rfl, rfl, by decide +kernel, rfl, by decide +kernel, by decide +kernel⟩
theorem cpow {i j : Int} (h : 0 ≤ i ∧ i < 65536) (hj : 0 ≤ j ∧ j ≤ 64) : 0 ≤ j ∧ j ≤ 1000000 ∧ i.natAbs < 2 ^ 64 := ⟨hj.1, by omega, by omega⟩
theorem ok_fields (F : FnP K "fields" s_fields dvs f fd) : FnOk P w K mg base CX0 1 f fd ["form", "first", "second"] spFields := by
  refine F.ok sc_fields (fun vs H Q E h => ?_) (fun cdv A outer s H vs Q E hr h => ?_)
  · obtain ⟨f, a, b, rfl, _⟩ := h
    rfl
  · obtain ⟨f, a, b, rfl, hf, ha, hb, q⟩ := h
    refine ⟨_, PSs.nox (pss_one (ps_ret (pe_op op_or (pe_op op_or (pe_op op_shl (pv 0) pe_int) (pe_op op_shl (pv 1) pe_int)) (pe_op op_shl (pv 2) pe_int)))), ?_⟩
    refine ⟨_, rfl, _, _, rfl, rfl, cpow (by omega) (by decide), _, rfl, _, _, rfl, rfl, cpow (by omega) (by decide), _, _, rfl, rfl, _, rfl, _, _, rfl, rfl, cpow (by omega) (by decide), _, _, rfl, rfl, ?_⟩
    have e := or3 hf ha hb
    show Q (.int (Builtin.bitOr (Builtin.bitOr (f * 2 ^ 12) (a * 2 ^ 9)) (b * 2 ^ 6))) H
    rw [e]
    exact q
abbrev KnF (P : Program) (w : World) (K : PySem.W.Frag) (mg : Str → Option Value) (base : Heap) (dvs : List V) : Prop := Kn P w K mg base CX0 1 "fields" ["form", "first", "second"] dvs spFields
/-! is_reached -/
def spReached : Sp := fun vs H Q _ => ∃ p g : Int, vs = [.int p, .int g] ∧ Q (.bl (decide (near g p))) H
abbrev N_is_reached : List Str := ["place", "goal"]
theorem sc_is_reached : FnScope ["place", "goal"] ["place", "goal"] (defScope s_is_reached) := ⟨rfl, rfl, rfl, by decide +kernel, rfl, by decide +kernel, by decide +kernel⟩
theorem ok_reached (F : FnP K "is_reached" s_is_reached dvs f fd) : FnOk P w K mg base CX0 1 f fd ["place", "goal"] spReached := by
  refine F.ok sc_is_reached (fun vs H Q E h => ?_) (fun cdv A outer s H vs Q E hr h => ?_)
  · obtain ⟨p, g, rfl, _⟩ := h
    rfl
  · obtain ⟨p, g, rfl, q⟩ := h
    refine ⟨_, PSs.nox (pss_one (ps_ret (pe_chain op_le op_le (pe_un un_neg pe_int) (pe_op op_sub (pe_op op_sub (pv 1) (pv 0)) pe_int) pe_int))), ?_⟩
    refine ⟨_, rfl, _, rfl, _, rfl, _, _, rfl, rfl, _, _, rfl, rfl, _, _, rfl, rfl, _, rfl, ?_⟩
    by_cases c1 : -16 ≤ g - p - 1
    · rw [decide_eq_true c1]
      refine iteT ⟨_, _, rfl, rfl, ?_⟩
      have e : decide (near g p) = decide (g - p - 1 ≤ 15) := decide_eq_decide.mpr ⟨fun h => h.2, fun h => ⟨c1, h⟩⟩
      rw [e] at q
      exact q
    · rw [decide_eq_false c1]
      have e : decide (near g p) = false := decide_eq_false fun h => c1 h.1
      rw [e] at q
      exact iteF q
abbrev KnRe (P : Program) (w : World) (K : PySem.W.Frag) (mg : Str → Option Value) (base : Heap) : Prop := Kn P w K mg base CX0 1 "is_reached" ["place", "goal"] [] spReached
/-! going_words -/
def spGoing : Sp := fun vs H Q _ => ∃ (nf k g : Int) (far : Bool) (p : Int), vs = [.int nf, .int k, .int g, .bl far, .int p] ∧ (0 ≤ nf ∧ nf < 15) ∧ (0 ≤ k ∧ k < 8) ∧
  (far = true → ∀ q H', Same H H' → H' q = some (.tup [.int ((nf + 1) * 4096 + k * 512), .int g]) → Q (.ref q) H') ∧
  (far = false → near g p → ∀ q H', Same H H' → H' q = some (.tup [.int (nf * 4096 + k * 512 + (g - p - 1) % 32)]) → Q (.ref q) H') ∧ (far = false → ¬ near g p → Q .non H)
abbrev N_going_words : List Str := ["near_form", "when", "goal", "far", "place"]
theorem sc_going_words : FnScope ["near_form", "when", "goal", "far", "place"] ["near_form", "when", "goal", "far", "place"] (defScope s_going_words) := ⟨rfl, rfl, rfl, by decide +kernel, rfl, by decide +kernel, by decide +kernel⟩
theorem ok_going (F : FnP K "going_words" s_going_words dvs f fd) (k_fields_2 : KnF P w K mg base [.int 0]) (k_is_reached : KnRe P w K mg base) : FnOk P w K mg base CX0 2 f fd ["near_form", "when", "goal", "far", "place"] spGoing := by
  refine F.ok sc_going_words (fun vs H Q E h => ?_) (fun cdv A outer s H vs Q E hr h => ?_)
  · obtain ⟨nf, k, g, far, p, rfl, _⟩ := h
    rfl
  · obtain ⟨nf, k, g, far, p, rfl, hf, hk, q1, q2, q3⟩ := h
    refine ⟨_, PSs.nox (pss_cons (ps_if (pt_val (pv 3)) (pss_one (ps_ret (pe_tup (pa_cons (pk k_fields_2 hr (by decide) rfl pass0 (pa_cons (pe_op op_add (pv 0) pe_int) (pa_cons (pv 1) pa_nil))) (pa_cons (pv 2) pa_nil))))) pss_nil)
      (pss_cons (ps_if (pt_not (pt_val (pk k_is_reached hr (by decide) rfl pass0 (pa_cons (pv 4) (pa_cons (pv 2) pa_nil))))) (pss_one (ps_ret pe_non)) pss_nil)
      (pss_one (ps_ret (pe_tup (pa_cons (pe_op op_or (pk k_fields_2 hr (by decide) rfl pass0 (pa_cons (pv 0) (pa_cons (pv 1) pa_nil))) (pe_op op_and (pe_op op_sub (pe_op op_sub (pv 2) (pv 4)) pe_int) pe_int)) pa_nil)))))), ?_⟩
    refine ⟨_, rfl, _, rfl, ?_⟩
    cases far with
    | true =>
      refine iteT ?_
      refine ⟨_, rfl, _, _, rfl, rfl, _, rfl, nf + 1, k, 0, rfl, by omega, by omega, by omega, _, rfl, line5 (by simp), laid fun q H1 _ e h1 => q1 rfl q H1 e ?_⟩
      rw [h1]
      have e : (nf + 1) * 4096 + k * 512 + 0 * 64 = (nf + 1) * 4096 + k * 512 := by omega
      rw [e]
    | false =>
      refine iteF ⟨_, rfl, _, rfl, p, g, rfl, _, rfl, ?_⟩
      by_cases c : near g p
      · rw [decide_eq_true c]
        refine iteF ?_
        refine ⟨_, rfl, _, rfl, nf, k, 0, rfl, by omega, by omega, by omega, _, rfl, _, rfl, _, _, rfl, rfl, _, _, rfl, rfl, _, _, rfl, rfl, _, _, rfl, rfl, line5 (by simp), laid fun q H1 _ e h1 => q2 rfl c q H1 e ?_⟩
        have e4 : Builtin.bitOr (nf * 4096 + k * 512 + 0 * 64) (Builtin.bitAnd (g - p - 1) 31) = nf * 4096 + k * 512 + (g - p - 1) % 32 := by
          have e2 : nf * 4096 + k * 512 + 0 * 64 = (nf * 64 + k * 8) * 64 := by omega
          rw [bitAnd_m5, e2, or6 (by omega) (by omega) (by omega)]
          omega
        exact h1.trans (congrArg (fun z => some (HO.tup [V.int z])) e4)
      · rw [decide_eq_false c]
        exact iteT (q3 rfl c)
end
end Bm
set_option maxHeartbeats 800000
namespace Bm
open PySem PySem.Spec PyProof.Rows L2
section
variable {P : Program} {w : World} {K : PySem.W.Frag} {mg : Str → Option Value} {base : Heap} {f : Addr} {fd : FuncData} {dvs : List V} {odd : List Str}
/-! only_word -/
def spOnly (K : PySem.W.Frag) : Sp := fun vs H Q _ => ∃ (a : Addr) (d : De), vs = [.ref a] ∧ SqT K H a d.vals ∧ d.ok ∧ d.goes = false ∧ Q (.int d.word) H
theorem sc_only_word : FnScope ["deed", "name", "a", "d", "n", "b"] ["deed"] (defScope s_only_word) := ⟨rfl, rfl, rfl, by decide +kernel, rfl, by decide +kernel, by decide +kernel⟩
theorem ok_only (F : FnP K "only_word" s_only_word dvs f fd) (C : Con w K mg odd) (k_fields : KnF P w K mg base []) (k_fields_2 : KnF P w K mg base [.int 0]) : FnOk P w K mg base CX0 2 f fd ["deed"] (spOnly K) := by
  refine F.ok sc_only_word (fun vs H Q E h => ?_) (fun cdv A outer s H vs Q E hr h => ?_)
  · obtain ⟨a, d, rfl, _⟩ := h
    rfl
  · obtain ⟨a, d, rfl, hS, hok, hgo, q⟩ := h
    have g_SINGLES := C.g_SINGLES
    have g_SUMS := C.g_SUMS
    refine ⟨_, PSs.nox (pss_one (ps_match (pv 0) (pcs_cons sc_only_word.nd (pp_seq rfl (pps_cons (pp_name (i := 1) rfl (Or.inl rfl)) pps_nil)) (pss_one (ps_ret (pk k_fields_2 hr (by decide) rfl pass0 (pa_cons pe_int (pa_cons (pe_bm PySem.F.plainAttrs_tuple PySem.F.slot_tuple_index PySem.F.type_tuple_index mt_tup_index (pe_glob (v := .ref (He.ga K "SINGLES")) rfl g_SINGLES rfl) (pa_cons (pv 1) pa_nil)) pa_nil)))))
      (pcs_cons sc_only_word.nd (pp_seq rfl (pps_cons (pp_name (i := 1) rfl (Or.inl rfl)) (pps_cons (pp_name (i := 2) rfl (Or.inl rfl)) pps_nil))) (pss_one (ps_ret (pk k_fields hr (by decide) rfl pass0 (pa_cons pe_int (pa_cons (pe_bm PySem.F.plainAttrs_tuple PySem.F.slot_tuple_index PySem.F.type_tuple_index mt_tup_index (pe_glob (v := .ref (He.ga K "SINGLES")) rfl g_SINGLES rfl) (pa_cons (pv 1) pa_nil)) (pa_cons (pv 2) pa_nil))))))
      (pcs_cons sc_only_word.nd (pp_seq rfl (pps_cons (pp_val pe_str) (pps_cons (pp_name (i := 3) rfl (Or.inl rfl)) (pps_cons (pp_name (i := 4) rfl (Or.inl rfl)) pps_nil)))) (pss_one (ps_ret (pe_op op_or (pk k_fields_2 hr (by decide) rfl pass0 (pa_cons pe_int (pa_cons (pv 3) pa_nil))) (pv 4))))
      (pcs_cons sc_only_word.nd (pp_seq rfl (pps_cons (pp_val pe_str) (pps_cons (pp_name (i := 3) rfl (Or.inl rfl)) (pps_cons (pp_name (i := 4) rfl (Or.inl rfl)) pps_nil)))) (pss_one (ps_ret (pe_op op_or (pk k_fields_2 hr (by decide) rfl pass0 (pa_cons pe_int (pa_cons (pv 3) pa_nil))) (pv 4))))
      (pcs_cons sc_only_word.nd (pp_seq rfl (pps_cons (pp_val pe_str) (pps_cons (pp_name (i := 3) rfl (Or.inl rfl)) (pps_cons (pp_name (i := 2) rfl (Or.inl rfl)) (pps_cons (pp_name (i := 4) rfl (Or.inl rfl)) pps_nil))))) (pss_one (ps_ret (pe_op op_or (pk k_fields hr (by decide) rfl pass0 (pa_cons pe_int (pa_cons (pv 3) (pa_cons (pv 2) pa_nil)))) (pe_op op_and (pv 4) pe_int))))
      (pcs_cons sc_only_word.nd (pp_seq rfl (pps_cons (pp_val pe_str) (pps_cons (pp_name (i := 3) rfl (Or.inl rfl)) (pps_cons (pp_name (i := 2) rfl (Or.inl rfl)) (pps_cons (pp_name (i := 4) rfl (Or.inl rfl)) pps_nil))))) (pss_one (ps_ret (pe_op op_or (pk k_fields hr (by decide) rfl pass0 (pa_cons pe_int (pa_cons (pv 3) (pa_cons (pv 2) pa_nil)))) (pv 4))))
      (pcs_cons sc_only_word.nd (pp_seq rfl (pps_cons (pp_val pe_str) (pps_cons (pp_name (i := 3) rfl (Or.inl rfl)) (pps_cons (pp_name (i := 2) rfl (Or.inl rfl)) (pps_cons (pp_name (i := 4) rfl (Or.inl rfl)) pps_nil))))) (pss_one (ps_ret (pe_op op_or (pk k_fields hr (by decide) rfl pass0 (pa_cons pe_int (pa_cons (pv 3) (pa_cons (pv 2) pa_nil)))) (pv 4))))
      (pcs_cons sc_only_word.nd (pp_seq rfl (pps_cons (pp_name (i := 1) rfl (Or.inl rfl)) (pps_cons (pp_name (i := 3) rfl (Or.inl rfl)) (pps_cons (pp_name (i := 2) rfl (Or.inl rfl)) (pps_cons (pp_name (i := 5) rfl (Or.inl rfl)) pps_nil))))) (pss_one (ps_ret (pe_op op_or (pe_op op_or (pk k_fields hr (by decide) rfl pass0 (pa_cons pe_int (pa_cons (pv 3) (pa_cons (pv 2) pa_nil)))) (pe_op op_shl (pv 5) pe_int)) (pe_bm PySem.F.plainAttrs_tuple PySem.F.slot_tuple_index PySem.F.type_tuple_index mt_tup_index (pe_glob (v := .ref (He.ga K "SUMS")) rfl g_SUMS rfl) (pa_cons (pv 1) pa_nil)))))
      pcs_nil)))))))))), ?_⟩
    refine ⟨_, rfl, ?_⟩
    have iq : ∀ z : Int, z = d.word → Q (.int z) H := fun z e => by rw [e]; exact q
    cases d with
    | sgl k =>
      have hk : k < 7 := Nat.lt_of_lt_of_le hok (by decide)
      have hok : k < 3 := hok
      refine cs_yes (pev_seq hS rfl (psev_cons pev_name psev_nil)) ?_
      refine ⟨(C.sg H).2, _, rfl, _, SG, nm SG k, k, rfl, rfl, (C.sg H).1, (sg_at k hk).1, (sg_at k hk).2, 0, k, 0, rfl, by omega, by omega, by omega, iq _ ?_⟩
      show (0 : Int) * 4096 + k * 512 + 0 * 64 = k * 512
      omega
    | reg k a =>
      obtain ⟨h1, h2, h3⟩ := hok
      have h3 : 0 ≤ a ∧ a ≤ 7 := h3
      refine cs_no (pev_len hS (Nat.ne_of_beq_eq_false rfl)) (cs_yes (pev_seq hS rfl (psev_cons pev_name (psev_cons pev_name psev_nil))) ?_)
      refine ⟨(C.sg H).2, _, rfl, _, SG, nm SG k, k, rfl, rfl, (C.sg H).1, (sg_at k h2).1, (sg_at k h2).2, _, rfl, 0, k, a, rfl, by omega, by omega, by omega, iq _ ?_⟩
      show (0 : Int) * 4096 + k * 512 + a * 64 = k * 512 + a * 64
      omega
    | sum k d a b =>
      obtain ⟨h1, h2, h3, h4⟩ := hok
      have h2 : 0 ≤ d ∧ d ≤ 7 := h2
      have h3 : 0 ≤ a ∧ a ≤ 7 := h3
      have h4 : 0 ≤ b ∧ b ≤ 7 := h4
      obtain ⟨n1, n2, n3, _⟩ := sm_ne k h1
      refine cs_no (pev_len hS (Nat.ne_of_beq_eq_false rfl)) (cs_no (pev_len hS (Nat.ne_of_beq_eq_false rfl)) (cs_no (pev_len hS (Nat.ne_of_beq_eq_false rfl)) (cs_no (pev_len hS (Nat.ne_of_beq_eq_false rfl)) (cs_no (pev_seq hS rfl (psev_no (pev_str n1))) (cs_no (pev_seq hS rfl (psev_no (pev_str n2))) (cs_no (pev_seq hS rfl (psev_no (pev_str n3)))
        (cs_yes (pev_seq hS rfl (psev_cons pev_name (psev_cons pev_name (psev_cons pev_name (psev_cons pev_name psev_nil))))) ?_)))))))
      refine ⟨_, rfl, _, rfl, 1, d, a, rfl, by omega, by omega, by omega, _, rfl, _, _, rfl, rfl, cpow (by omega) (by decide), _, _, rfl, rfl, (C.sm H).2, _, rfl, _, SM, nm SM k, k, rfl, rfl, (C.sm H).1, (sm_at k h1).1, (sm_at k h1).2, _, _, rfl, rfl, iq _ ?_⟩
      show Builtin.bitOr (Builtin.bitOr (1 * 4096 + d * 512 + a * 64) (b * 2 ^ 3)) (k : Int) = 4096 + d * 512 + a * 64 + b * 8 + k
      have e1 : (1 : Int) * 4096 + d * 512 + a * 64 = (64 + d * 8 + a) * 64 := by omega
      have e2 : (64 + d * 8 + a) * 64 + b * 2 ^ 3 = (512 + d * 64 + a * 8 + b) * 8 := by omega
      rw [e1, or6 (by omega) (by omega) (by omega), e2, or3' (by omega) (by omega) (by omega)]
      omega
    | plus d a n =>
      obtain ⟨h2, h3, h4, h5⟩ := hok
      have h2 : 0 ≤ d ∧ d ≤ 7 := h2
      have h3 : 0 ≤ a ∧ a ≤ 7 := h3
      refine cs_no (pev_len hS (Nat.ne_of_beq_eq_false rfl)) (cs_no (pev_len hS (Nat.ne_of_beq_eq_false rfl)) (cs_no (pev_len hS (Nat.ne_of_beq_eq_false rfl)) (cs_no (pev_len hS (Nat.ne_of_beq_eq_false rfl)) (cs_yes (pev_seq hS rfl (psev_cons (pev_yes rfl) (psev_cons pev_name (psev_cons pev_name (psev_cons pev_name psev_nil))))) ?_))))
      refine ⟨_, rfl, _, rfl, 2, d, a, rfl, by omega, by omega, by omega, _, rfl, _, _, rfl, rfl, _, _, rfl, rfl, iq _ ?_⟩
      show Builtin.bitOr (2 * 4096 + d * 512 + a * 64) (Builtin.bitAnd n 63) = 8192 + d * 512 + a * 64 + n % 64
      have e1 : (2 : Int) * 4096 + d * 512 + a * 64 = (128 + d * 8 + a) * 64 := by omega
      rw [bitAnd_m6, e1, or6 (by omega) (by omega) (by omega)]
      omega
    | set d n =>
      obtain ⟨h2, h3, h4⟩ := hok
      have h2 : 0 ≤ d ∧ d ≤ 7 := h2
      refine cs_no (pev_len hS (Nat.ne_of_beq_eq_false rfl)) (cs_no (pev_len hS (Nat.ne_of_beq_eq_false rfl)) (cs_yes (pev_seq hS rfl (psev_cons (pev_yes rfl) (psev_cons pev_name (psev_cons pev_name psev_nil)))) ?_))
      refine ⟨_, rfl, 3, d, 0, rfl, by omega, by omega, by omega, _, rfl, _, _, rfl, rfl, iq _ ?_⟩
      show Builtin.bitOr (3 * 4096 + d * 512 + 0 * 64) n = 12288 + d * 512 + n
      have e1 : (3 : Int) * 4096 + d * 512 + 0 * 64 = (24 + d) * 512 := by omega
      rw [e1, or9 (by omega) (by omega) (by omega)]
      omega
    | high d n =>
      obtain ⟨h2, h3, h4⟩ := hok
      have h2 : 0 ≤ d ∧ d ≤ 7 := h2
      refine cs_no (pev_len hS (Nat.ne_of_beq_eq_false rfl)) (cs_no (pev_len hS (Nat.ne_of_beq_eq_false rfl)) (cs_no (pev_seq hS rfl (psev_no (pev_str (by decide +kernel)))) (cs_yes (pev_seq hS rfl (psev_cons (pev_yes rfl) (psev_cons pev_name (psev_cons pev_name psev_nil)))) ?_)))
      refine ⟨_, rfl, 4, d, 0, rfl, by omega, by omega, by omega, _, rfl, _, _, rfl, rfl, iq _ ?_⟩
      show Builtin.bitOr (4 * 4096 + d * 512 + 0 * 64) n = 16384 + d * 512 + n
      have e1 : (4 : Int) * 4096 + d * 512 + 0 * 64 = (32 + d) * 512 := by omega
      rw [e1, or9 (by omega) (by omega) (by omega)]
      omega
    | load d a n =>
      obtain ⟨h2, h3, h4, h5⟩ := hok
      have h2 : 0 ≤ d ∧ d ≤ 7 := h2
      have h3 : 0 ≤ a ∧ a ≤ 7 := h3
      refine cs_no (pev_len hS (Nat.ne_of_beq_eq_false rfl)) (cs_no (pev_len hS (Nat.ne_of_beq_eq_false rfl)) (cs_no (pev_len hS (Nat.ne_of_beq_eq_false rfl)) (cs_no (pev_len hS (Nat.ne_of_beq_eq_false rfl)) (cs_no (pev_seq hS rfl (psev_no (pev_str (by decide +kernel))))
        (cs_yes (pev_seq hS rfl (psev_cons (pev_yes rfl) (psev_cons pev_name (psev_cons pev_name (psev_cons pev_name psev_nil))))) ?_)))))
      refine ⟨_, rfl, _, rfl, 5, d, a, rfl, by omega, by omega, by omega, _, rfl, _, _, rfl, rfl, iq _ ?_⟩
      show Builtin.bitOr (5 * 4096 + d * 512 + a * 64) n = 20480 + d * 512 + a * 64 + n
      have e1 : (5 : Int) * 4096 + d * 512 + a * 64 = (320 + d * 8 + a) * 64 := by omega
      rw [e1, or6 (by omega) (by omega) (by omega)]
      omega
    | store d a n =>
      obtain ⟨h2, h3, h4, h5⟩ := hok
      have h2 : 0 ≤ d ∧ d ≤ 7 := h2
      have h3 : 0 ≤ a ∧ a ≤ 7 := h3
      refine cs_no (pev_len hS (Nat.ne_of_beq_eq_false rfl)) (cs_no (pev_len hS (Nat.ne_of_beq_eq_false rfl)) (cs_no (pev_len hS (Nat.ne_of_beq_eq_false rfl)) (cs_no (pev_len hS (Nat.ne_of_beq_eq_false rfl)) (cs_no (pev_seq hS rfl (psev_no (pev_str (by decide +kernel)))) (cs_no (pev_seq hS rfl (psev_no (pev_str (by decide +kernel))))
        (cs_yes (pev_seq hS rfl (psev_cons (pev_yes rfl) (psev_cons pev_name (psev_cons pev_name (psev_cons pev_name psev_nil))))) ?_))))))
      refine ⟨_, rfl, _, rfl, 6, d, a, rfl, by omega, by omega, by omega, _, rfl, _, _, rfl, rfl, iq _ ?_⟩
      show Builtin.bitOr (6 * 4096 + d * 512 + a * 64) n = 24576 + d * 512 + a * 64 + n
      have e1 : (6 : Int) * 4096 + d * 512 + a * 64 = (384 + d * 8 + a) * 64 := by omega
      rw [e1, or6 (by omega) (by omega) (by omega)]
      omega
    | jump _ _ _ => cases hgo
    | call _ _ => cases hgo
abbrev KnO (P : Program) (w : World) (K : PySem.W.Frag) (mg : Str → Option Value) (base : Heap) : Prop := Kn P w K mg base CX0 2 "only_word" ["deed"] [] (spOnly K)
/-! words_of -/
def vInts (l : List Int) : List V := l.map V.int
def spWordsOf (K : PySem.W.Frag) : Sp := fun vs H Q _ => ∃ (a : Addr) (d : De) (p : Int), vs = [.ref a, .int p] ∧ SqT K H a d.vals ∧ d.ok ∧
  (d.reached p → ∀ q H', Same H H' → H' q = some (.tup (vInts (d.words p))) → Q (.ref q) H') ∧ (¬ d.reached p → Q .non H)
abbrev KnG (P : Program) (w : World) (K : PySem.W.Frag) (mg : Str → Option Value) (base : Heap) : Prop := Kn P w K mg base CX0 2 "going_words" ["near_form", "when", "goal", "far", "place"] [] spGoing
abbrev N_words_of : List Str := ["deed", "place", "when", "goal", "far"]
theorem sc_words_of : FnScope ["deed", "place", "when", "goal", "far"] ["deed", "place"] (defScope s_words_of) := ⟨rfl, rfl, rfl, by decide +kernel, rfl, by decide +kernel, by decide +kernel⟩
theorem ok_words_of (F : FnP K "words_of" s_words_of dvs f fd) (C : Con w K mg odd) (k_going_words : KnG P w K mg base) (k_only_word : KnO P w K mg base) : FnOk P w K mg base CX0 3 f fd ["deed", "place"] (spWordsOf K) := by
  refine F.ok sc_words_of (fun vs H Q E h => ?_) (fun cdv A outer s H vs Q E hr h => ?_)
  · obtain ⟨a, d, p, rfl, _⟩ := h
    rfl
  · obtain ⟨a, d, p, rfl, hS, hok, q1, q2⟩ := h
    have g_TIMES := C.g_TIMES
    refine ⟨_, PSs.nox (pss_one (ps_match (pv 0) (pcs_cons sc_words_of.nd (pp_seq rfl (pps_cons (pp_val pe_str) (pps_cons (pp_name (i := 2) rfl (Or.inl rfl)) (pps_cons (pp_name (i := 3) rfl (Or.inl rfl)) (pps_cons (pp_name (i := 4) rfl (Or.inl rfl)) pps_nil))))) (pss_one (ps_ret (pk k_going_words hr (by decide) rfl pass0 (pa_cons pe_int (pa_cons (pe_bm PySem.F.plainAttrs_tuple PySem.F.slot_tuple_index PySem.F.type_tuple_index mt_tup_index (pe_glob (v := .ref (He.ga K "TIMES")) rfl g_TIMES rfl) (pa_cons (pv 2) pa_nil)) (pa_cons (pv 3) (pa_cons (pv 4) (pa_cons (pv 1) pa_nil))))))))
      (pcs_cons sc_words_of.nd (pp_seq rfl (pps_cons (pp_val pe_str) (pps_cons (pp_name (i := 3) rfl (Or.inl rfl)) (pps_cons (pp_name (i := 4) rfl (Or.inl rfl)) pps_nil)))) (pss_one (ps_ret (pk k_going_words hr (by decide) rfl pass0 (pa_cons pe_int (pa_cons pe_int (pa_cons (pv 3) (pa_cons (pv 4) (pa_cons (pv 1) pa_nil))))))))
      (pcs_cons sc_words_of.nd pp_wild (pss_one (ps_ret (pe_tup (pa_cons (pk k_only_word hr (by decide) rfl pass0 (pa_cons (pv 0) pa_nil)) pa_nil))))
      pcs_nil))))), ?_⟩
    refine ⟨_, rfl, ?_⟩
    have plain : d.goes = false → PEv (tPseq K 4 (tPcons (tPv (.str "jump")) (tPcons (tPn 2) (tPcons (tPn 3) (tPcons (tPn 4) tPnil))))) (.ref a) H none ∧ PEv (tPseq K 3 (tPcons (tPv (.str "call")) (tPcons (tPn 3) (tPcons (tPn 4) tPnil)))) (.ref a) H none := fun hg => by
      cases d with
      | sgl k => exact ⟨pev_len hS (Nat.ne_of_beq_eq_false rfl), pev_len hS (Nat.ne_of_beq_eq_false rfl)⟩
      | reg k a => exact ⟨pev_len hS (Nat.ne_of_beq_eq_false rfl), pev_len hS (Nat.ne_of_beq_eq_false rfl)⟩
      | sum k d a b => exact ⟨pev_seq hS rfl (psev_no (pev_str (sm_ne k hok.1).2.2.2.1)), pev_len hS (Nat.ne_of_beq_eq_false rfl)⟩
      | plus d a n => exact ⟨pev_seq hS rfl (psev_no (pev_str (by decide +kernel))), pev_len hS (Nat.ne_of_beq_eq_false rfl)⟩
      | set d n => exact ⟨pev_len hS (Nat.ne_of_beq_eq_false rfl), pev_seq hS rfl (psev_no (pev_str (by decide +kernel)))⟩
      | high d n => exact ⟨pev_len hS (Nat.ne_of_beq_eq_false rfl), pev_seq hS rfl (psev_no (pev_str (by decide +kernel)))⟩
      | load d a n => exact ⟨pev_seq hS rfl (psev_no (pev_str (by decide +kernel))), pev_len hS (Nat.ne_of_beq_eq_false rfl)⟩
      | store d a n => exact ⟨pev_seq hS rfl (psev_no (pev_str (by decide +kernel))), pev_len hS (Nat.ne_of_beq_eq_false rfl)⟩
      | jump _ _ _ => cases hg
      | call _ _ => cases hg
    by_cases hg : d.goes = false
    · obtain ⟨n1, n2⟩ := plain hg
      refine cs_no n1 (cs_no n2 (cs_yes pev_wild ?_))
      refine ⟨_, rfl, a, d, rfl, hS, hok, hg, line5 (by simp), laid fun q H1 _ e h1 => q1 ?_ q H1 e ?_⟩
      · cases d <;> first | trivial | cases hg
      · rw [h1, words_word hg]
        rfl
    cases d with
    | jump k g far =>
      obtain ⟨h1, h2, h3⟩ := hok
      refine cs_yes (pev_seq hS rfl (psev_cons (pev_yes rfl) (psev_cons pev_name (psev_cons pev_name (psev_cons pev_name psev_nil))))) ?_
      refine ⟨(C.tm H).2, _, rfl, _, TM, nm TM k, k, rfl, rfl, (C.tm H).1, (tm_at k h1).1, (tm_at k h1).2, _, rfl, _, rfl, _, rfl, 7, k, g, far, p, rfl, by omega, by omega, fun e q H1 s1 z => ?_, fun e n q H1 s1 z => ?_, fun e n => ?_⟩
      · subst e
        exact q1 trivial q H1 s1 (z.trans (congrArg (fun y => some (HO.tup [V.int y, V.int g])) (by omega)))
      · subst e
        exact q1 n q H1 s1 (z.trans (congrArg (fun y => some (HO.tup [V.int y])) (by omega)))
      · subst e
        exact q2 n
    | call g far =>
      refine cs_no (pev_len hS (Nat.ne_of_beq_eq_false rfl)) (cs_yes (pev_seq hS rfl (psev_cons (pev_yes rfl) (psev_cons pev_name (psev_cons pev_name psev_nil)))) ?_)
      refine ⟨_, rfl, _, rfl, _, rfl, 9, 0, g, far, p, rfl, by omega, by omega, fun e q H1 s1 z => ?_, fun e n q H1 s1 z => ?_, fun e n => ?_⟩
      · subst e
        exact q1 trivial q H1 s1 (z.trans (congrArg (fun y => some (HO.tup [V.int y, V.int g])) (by omega)))
      · subst e
        exact q1 n q H1 s1 (z.trans (congrArg (fun y => some (HO.tup [V.int y])) (by omega)))
      · subst e
        exact q2 n
    | _ => exact absurd rfl hg
end
end Bm
set_option maxHeartbeats 800000
namespace Bm
open PySem PySem.Spec PyProof.Rows L2
/-! values that a deed may be told with: numbers, truths, texts, the empty tuple -/
inductive OkV (K : PySem.W.Frag) (H : Hp) : V → Prop
  | int (i : Int) : OkV K H (.int i)
  | bl (b : Bool) : OkV K H (.bl b)
  | str (x : Str) : OkV K H (.str x)
  | unit {a : Addr} (h : SqT K H a []) : OkV K H (.ref a)
theorem OkV.same {K : PySem.W.Frag} {H H' : Hp} {v : V} (e : Same H H') (h : OkV K H v) : OkV K H' v := by
  cases h with
  | int i => exact .int i
  | bl b => exact .bl b
  | str x => exact .str x
  | unit h => exact .unit (Same.tup e h)
def numB (v : V) (lo hi : Int) : Bool := match v with
  | .int i => decide (lo ≤ i) && decide (i ≤ hi)
  | _ => false
def isBl : V → Bool
  | .bl _ => true
  | _ => false
def isTm : V → Bool
  | .str s => TM.any fun z => z == s
  | _ => false
def partB (kind : Str) (v : V) : Bool := if kind = "when" then isTm v else if kind = "far" then isBl v else match ST.lookup kind with
  | some r => numB v r.1 r.2
  | none => false
def deedB : List V → Bool
  | .str z :: r => match PT.lookup z with
    | some ks => decide (r.length = ks.length) && ((ks.zip r).all fun p => partB p.1 p.2)
    | none => false
  | _ => false
section
variable {P : Program} {w : World} {K : PySem.W.Frag} {mg : Str → Option Value} {base : Heap} {f : Addr} {fd : FuncData} {dvs : List V} {odd : List Str}
/-! is_number -/
def spNum (K : PySem.W.Frag) : Sp := fun vs H Q _ => ∃ (v : V) (lo hi : Int), vs = [v, .int lo, .int hi] ∧ OkV K H v ∧ Q (.bl (numB v lo hi)) H
abbrev N_is_number : List Str := ["thing", "least", "most"]
theorem sc_is_number : FnScope ["thing", "least", "most"] ["thing", "least", "most"] (defScope s_is_number) := ⟨rfl, rfl, rfl, by decide +kernel, rfl, by decide +kernel, by decide +kernel⟩
theorem ok_num (F : FnP K "is_number" s_is_number dvs f fd) (g_isinstance : mg "isinstance" = none) (g_bool : mg "bool" = none) (g_int : mg "int" = none) : FnOk P w K mg base CX0 1 f fd ["thing", "least", "most"] (spNum K) := by
  refine F.ok sc_is_number (fun vs H Q E h => ?_) (fun cdv A outer s H vs Q E hr h => ?_)
  · obtain ⟨v, lo, hi, rfl, _⟩ := h
    rfl
  · obtain ⟨v, lo, hi, rfl, hv, q⟩ := h
    refine ⟨_, PSs.nox (pss_cons (ps_if (PW.pt (pw_or (pt_val (pe_callB call_isi rfl g_isinstance (by decide +kernel) (pa_cons (pv 0) (pa_cons (pe_bltn (v := .ty "bool") rfl g_bool (by decide +kernel) rfl) pa_nil)))) (pw_or1 (pt_not (pt_val (pe_callB call_isi rfl g_isinstance (by decide +kernel) (pa_cons (pv 0) (pa_cons (pe_bltn (v := .ty "int") rfl g_int (by decide +kernel) rfl) pa_nil)))))))) (pss_one (ps_ret pe_bl)) pss_nil)
      (pss_one (ps_ret (pe_chain op_le op_le (pv 1) (pv 0) (pv 2))))), ?_⟩
    refine ⟨_, rfl, ?_⟩
    cases hv with
    | int i =>
      refine ⟨_, _, _, _, _, rfl, .ty _, Knd.ty (.int i), kit_ty (r := false) (by decide +kernel), _, rfl, iteF ⟨_, rfl, _, _, _, _, _, rfl, .ty _, Knd.ty (.int i), kit_ty (r := true) (by decide +kernel), _, rfl, iteF ?_⟩⟩
      refine ⟨_, rfl, _, rfl, _, _, rfl, rfl, _, rfl, ?_⟩
      by_cases c : lo ≤ i
      · rw [decide_eq_true c]
        refine iteT ⟨_, rfl, _, _, rfl, rfl, ?_⟩
        have e : numB (.int i) lo hi = decide (i ≤ hi) := by
          show (decide (lo ≤ i) && decide (i ≤ hi)) = decide (i ≤ hi)
          rw [decide_eq_true c, Bool.true_and]
        rw [e] at q
        exact q
      · rw [decide_eq_false c]
        have e : numB (.int i) lo hi = false := by
          show (decide (lo ≤ i) && decide (i ≤ hi)) = false
          rw [decide_eq_false c, Bool.false_and]
        rw [e] at q
        exact iteF q
    | bl b => exact ⟨_, _, _, _, _, rfl, .ty _, Knd.ty (.bl b), kit_ty (r := true) (by decide +kernel), _, rfl, iteT q⟩
    | str x => exact ⟨_, _, _, _, _, rfl, .ty _, Knd.ty (.str x), kit_ty (r := false) (by decide +kernel), _, rfl, iteF ⟨_, rfl, _, _, _, _, _, rfl, .ty _, Knd.ty (.str x), kit_ty (r := false) (by decide +kernel), _, rfl, iteT q⟩⟩
    | unit h => exact ⟨_, _, _, _, _, rfl, .ty _, Knd.ty (.tup h), kit_ty (r := false) (by decide +kernel), _, rfl, iteF ⟨_, rfl, _, _, _, _, _, rfl, .ty _, Knd.ty (.tup h), kit_ty (r := false) (by decide +kernel), _, rfl, iteT q⟩⟩
abbrev KnN (P : Program) (w : World) (K : PySem.W.Frag) (mg : Str → Option Value) (base : Heap) : Prop := Kn P w K mg base CX0 1 "is_number" ["thing", "least", "most"] [] (spNum K)
/-! is_part -/
theorem tm_shaped : SeqAt.shaped (.tuple (TM.map PyData.str)) = true := by decide +kernel
theorem dpAll_strs {H : Hp} : ∀ l : List Str, DpAll K H (l.map V.str) (l.map PyData.str)
  | [] => .nil
  | x :: l => .cons (.str x) (dpAll_strs l)
theorem tm_in {H : Hp} {v : V} {p : Addr} {Q : VK} (h : OkV K H v) (hp : SqT K H p (TM.map V.str)) (q : Q (.bl (isTm v)) H) : rIn2 K v (.ref p) H Q := by
  cases h with
  | int i => exact .inl ⟨p, _, rfl, .inr hp, rfl, flat_strs TM, q⟩
  | bl b => exact .inl ⟨p, _, rfl, .inr hp, rfl, flat_strs TM, by cases b <;> exact q⟩
  | str x =>
    refine .inl ⟨p, _, rfl, .inr hp, rfl, flat_strs TM, ?_⟩
    have e : inV (.str x) (TM.map V.str) = isTm (.str x) := by
      unfold inV isTm
      rw [List.any_map]
      rfl
    show Q (.bl (inV (.str x) (TM.map V.str))) H
    rw [e]
    exact q
  | unit h =>
    refine .inr ⟨.tuple [], _, .tup h .nil, .tup hp (dpAll_strs TM), by decide +kernel, tm_shaped, ?_⟩
    exact q
def spPart (K : PySem.W.Frag) : Sp := fun vs H Q _ => ∃ (z : Str) (v : V), vs = [.str z, v] ∧ OkV K H v ∧ (z = "when" ∨ z = "far" ∨ ∃ r ∈ ST, r.1 = z) ∧ Q (.bl (partB z v)) H
abbrev N_is_part : List Str := ["kind", "thing", "least", "most"]
theorem sc_is_part : FnScope ["kind", "thing", "least", "most"] ["kind", "thing"] (defScope s_is_part) := ⟨rfl, rfl, rfl, by decide +kernel, rfl, by decide +kernel, by decide +kernel⟩
theorem st_at : ∀ r ∈ ST, ST.lookup r.1 = some r.2 ∧ r.1 ≠ "when" ∧ r.1 ≠ "far" := by decide +kernel
theorem ok_part (F : FnP K "is_part" s_is_part dvs f fd) (C : Con w K mg odd) (g_isinstance : mg "isinstance" = none) (g_bool : mg "bool" = none) (k_is_number : KnN P w K mg base) : FnOk P w K mg base CX0 2 f fd ["kind", "thing"] (spPart K) := by
  refine F.ok sc_is_part (fun vs H Q E h => ?_) (fun cdv A outer s H vs Q E hr h => ?_)
  · obtain ⟨z, v, rfl, _⟩ := h
    rfl
  · obtain ⟨z, v, rfl, hv, hz, q⟩ := h
    have g_TIMES := C.g_TIMES
    have g_SPANS := C.g_SPANS
    obtain ⟨es, n, D⟩ := C.spans
    refine ⟨_, PSs.nox (pss_cons (ps_if (pt_cmpR op_eq (pv 0) pe_str (nomark _)) (pss_one (ps_ret (pe_cmpR (op_in2 (hu65 hr)) (pv 1) (pe_glob (v := .ref (He.ga K "TIMES")) rfl g_TIMES rfl) rfl))) pss_nil)
      (pss_cons (ps_if (pt_cmpR op_eq (pv 0) pe_str (nomark _)) (pss_one (ps_ret (pe_callB call_isi rfl g_isinstance (by decide +kernel) (pa_cons (pv 1) (pa_cons (pe_bltn (v := .ty "bool") rfl g_bool (by decide +kernel) rfl) pa_nil))))) pss_nil)
      (pss_cons (ps_asg (pe_ix ix_kdict (pe_glob (v := .ref (He.ga K "SPANS")) rfl g_SPANS rfl) (pv 0) (fun _ _ => rfl)) (pg_tup rfl (pgs_cons (pg_name (i := 2) sc_is_part.nd rfl (Or.inl rfl)) (pgs_cons (pg_name (i := 3) sc_is_part.nd rfl (Or.inl rfl)) pgs_nil))))
      (pss_one (ps_ret (pk k_is_number hr (by decide) rfl pass0 (pa_cons (pv 1) (pa_cons (pv 2) (pa_cons (pv 3) pa_nil))))))))), ?_⟩
    refine ⟨_, rfl, rfl, _, rfl, ?_⟩
    by_cases h1 : z = "when"
    · subst h1
      refine iteT ?_
      have e : partB "when" v = isTm v := if_pos rfl
      rw [e] at q
      exact ⟨_, rfl, tm_in hv (C.tm H).1 q⟩
    · rw [decide_eq_false (fun e => h1 (V.str.inj e))]
      refine iteF ⟨_, rfl, rfl, _, rfl, ?_⟩
      by_cases h2 : z = "far"
      · subst h2
        refine iteT ⟨_, rfl, ?_⟩
        have e : partB "far" v = isBl v := (if_neg (by decide +kernel)).trans (if_pos rfl)
        rw [e] at q
        cases hv with
        | int i => exact ⟨_, _, _, _, _, rfl, .ty _, Knd.ty (.int i), kit_ty (r := false) (by decide +kernel), q⟩
        | bl b => exact ⟨_, _, _, _, _, rfl, .ty _, Knd.ty (.bl b), kit_ty (r := true) (by decide +kernel), q⟩
        | str x => exact ⟨_, _, _, _, _, rfl, .ty _, Knd.ty (.str x), kit_ty (r := false) (by decide +kernel), q⟩
        | unit h => exact ⟨_, _, _, _, _, rfl, .ty _, Knd.ty (.tup h), kit_ty (r := false) (by decide +kernel), q⟩
      · rw [decide_eq_false (fun e => h2 (V.str.inj e))]
        refine iteF ?_
        obtain ⟨r, hr1, rfl⟩ : ∃ r ∈ ST, r.1 = z := by
          rcases hz with e | e | e
          · exact absurd e h1
          · exact absurd e h2
          · exact e
        obtain ⟨t, e1, e2⟩ := C.span r hr1
        refine ⟨_, rfl, _, _, .ref t, rfl, rfl, ⟨es, n, _, D.at_, D.lit, e1, rfl⟩, t, _, rfl, e2 H, rfl, _, _, rfl, _, _, rfl, rfl, ?_⟩
        refine ⟨_, rfl, _, rfl, _, rfl, v, r.2.1, r.2.2, rfl, hv, ?_⟩
        have e : partB r.1 v = numB v r.2.1 r.2.2 := by
          unfold partB
          rw [if_neg h1, if_neg h2, (st_at r hr1).1]
        rw [← e]
        exact q
end
end Bm
set_option maxHeartbeats 800000
namespace Bm
open PySem PySem.Spec PyProof.Rows L2
section
variable {P : Program} {w : World} {K : PySem.W.Frag} {mg : Str → Option Value} {base : Heap} {f : Addr} {fd : FuncData} {dvs : List V} {odd : List Str}
/-! is_deed -/
abbrev KnP (P : Program) (w : World) (K : PySem.W.Frag) (mg : Str → Option Value) (base : Heap) : Prop := Kn P w K mg base CX0 2 "is_part" ["kind", "thing"] [] (spPart K)
def spDeed (K : PySem.W.Frag) (odd : List Str) : Sp := fun vs H Q _ => ∃ (a : Addr) (xs : List V), vs = [.ref a] ∧ SqT K H a xs ∧ (∀ x ∈ xs, OkV K H x) ∧ (∀ z r, xs = .str z :: r → (∃ ks, (z, ks) ∈ PT) ∨ z ∈ odd) ∧
  ∀ H', Same H H' → Q (.bl (deedB xs)) H'
abbrev N_is_deed : List Str := ["thing", "name", "kinds", "kind", "part"]
theorem sc_is_deed : FnScope ["thing", "name", "kinds", "kind", "part"] ["thing"] (defScope s_is_deed) := ⟨rfl, rfl, rfl, by decide +kernel, rfl, by decide +kernel, by decide +kernel⟩
theorem pt_at : ∀ r ∈ PT, PT.lookup r.1 = some r.2 := by decide +kernel
theorem pt_len : ∀ r ∈ PT, r.2.length ≤ 3 := by decide +kernel
theorem line_lt {n : Nat} (h : n < 100000) : n < sizeLine := Nat.lt_of_lt_of_le h (by decide)
theorem pt_kinds : ∀ r ∈ PT, ∀ z ∈ r.2, z = "when" ∨ z = "far" ∨ ∃ r ∈ ST, r.1 = z := by decide +kernel
theorem ok_deed (F : FnP K "is_deed" s_is_deed dvs f fd) (C : Con w K mg odd) (hodd : ∀ x ∈ odd, PT.lookup x = none) (g_isinstance : mg "isinstance" = none) (g_tuple : mg "tuple" = none) (g_str : mg "str" = none) (g_len : mg "len" = none)
    (g_all : mg "all" = none) (g_zip : mg "zip" = none) (k_is_part : KnP P w K mg base) : FnOk P w K mg base CX0 3 f fd ["thing"] (spDeed K odd) := by
  refine F.ok sc_is_deed (fun vs H Q E h => ?_) (fun cdv A outer s H vs Q E hr h => ?_)
  · obtain ⟨a, xs, rfl, _⟩ := h
    rfl
  · obtain ⟨a, xs, rfl, hS, hok, hodd', q⟩ := h
    have g_PARTS := C.g_PARTS
    obtain ⟨es, n, D_PARTS⟩ := C.parts
    refine ⟨_, PSs.nox (pss_cons (ps_if (PW.pt (pw_or (pt_not (pt_val (pe_callB call_isi rfl g_isinstance (by decide +kernel) (pa_cons (pv 0) (pa_cons (pe_bltn (v := .ty "tuple") rfl g_tuple (by decide +kernel) rfl) pa_nil))))) (pw_or1 (pt_cmpR op_eq (pe_callB call_len rfl g_len boot_len (pa_cons (pv 0) pa_nil)) pe_int (nomark _))))) (pss_one (ps_ret pe_bl)) pss_nil)
      (pss_cons (ps_set (i := 1) sc_is_deed.nd rfl (Or.inl rfl) (pe_ix ix_tup (pv 0) pe_int (fun _ _ => rfl)))
      (pss_cons (ps_if (PW.pt (pw_or (pt_not (pt_val (pe_callB call_isi rfl g_isinstance (by decide +kernel) (pa_cons (pv 1) (pa_cons (pe_bltn (v := .ty "str") rfl g_str (by decide +kernel) rfl) pa_nil))))) (pw_or1 (pt_cmpR (op_notIn_kd D_PARTS) (pv 1) (pe_glob (v := .ref (He.ga K "PARTS")) rfl g_PARTS rfl) rfl)))) (pss_one (ps_ret pe_bl)) pss_nil)
      (pss_cons (ps_set (i := 2) sc_is_deed.nd rfl (Or.inl rfl) (pe_ix ix_kdict (pe_glob (v := .ref (He.ga K "PARTS")) rfl g_PARTS rfl) (pv 1) (fun _ _ => rfl)))
      (pss_cons (ps_if (pt_cmpR op_ne (pe_callB call_len rfl g_len boot_len (pa_cons (pv 0) pa_nil)) (pe_op op_add (pe_callB call_len rfl g_len boot_len (pa_cons (pv 2) pa_nil)) pe_int) (nomark _)) (pss_one (ps_ret pe_bl)) pss_nil)
      (pss_one (ps_ret (pe_callB (cr_all rfl) rfl g_all (by decide +kernel) (pa_cons (pe_lc (own := [("kind", 3), ("part", 4)]) (g := gTup K 2 (gCons (gName 3) (gCons (gName 4) (gNil)))) rfl sc_is_deed.nd (RZ.pi_zipA rfl g_zip (pa_cons (pv 2) (pa_cons (pe_slice sl_tupA (pv 0) (po_some pe_int) po_none) pa_nil))) (blkOk_by (own := [("kind", 3), ("part", 4)]) (N := N_is_deed) (sc := defScope s_is_deed) (by decide +kernel)) (fun _ _ _ _ _ => (pg_tup rfl (pgs_cons (pg_name (i := 3) sc_is_deed.nd rfl (Or.inl rfl)) (pgs_cons (pg_name (i := 4) sc_is_deed.nd rfl (Or.inl rfl)) pgs_nil)))) (fun _ _ _ _ _ => pts_nil) (fun _ _ _ _ _ => (pk k_is_part hr (by decide) rfl pass0 (pa_cons (pv 3) (pa_cons (pv 4) pa_nil))))) pa_nil))))))))), ?_⟩
    refine ⟨_, rfl, _, _, _, _, _, rfl, .ty _, Knd.ty (.tup hS), kit_ty (r := true) (by decide +kernel), _, rfl, iteF ?_⟩
    cases xs with
    | nil => exact ⟨_, rfl, _, _, rfl, .inr ⟨_, hS, rfl⟩, rfl, _, rfl, iteT (q H (Same.refl H))⟩
    | cons x r =>
      refine ⟨_, rfl, _, _, rfl, .inr ⟨_, hS, rfl⟩, rfl, _, rfl, ?_⟩
      have nz : decide (V.int ((x :: r).length : Int) = V.int 0) = false := decide_eq_false fun z => by
        have z1 := V.int.inj z
        rw [List.length_cons] at z1
        omega
      rw [nz]
      refine iteF ⟨_, rfl, a, _, _, _, rfl, rfl, hS, at0, ?_⟩
      have hx := hok x (List.mem_cons_self ..)
      cases hx with
      | int i => exact ⟨_, rfl, _, _, _, _, _, rfl, .ty _, Knd.ty (.int i), kit_ty (r := false) (by decide +kernel), _, rfl, iteT (q H (Same.refl H))⟩
      | bl b => exact ⟨_, rfl, _, _, _, _, _, rfl, .ty _, Knd.ty (.bl b), kit_ty (r := false) (by decide +kernel), _, rfl, iteT (q H (Same.refl H))⟩
      | unit h => exact ⟨_, rfl, _, _, _, _, _, rfl, .ty _, Knd.ty (.tup h), kit_ty (r := false) (by decide +kernel), _, rfl, iteT (q H (Same.refl H))⟩
      | str z =>
        refine ⟨_, rfl, _, _, _, _, _, rfl, .ty _, Knd.ty (.str z), kit_ty (r := true) (by decide +kernel), _, rfl, iteF ⟨_, rfl, z, ?_⟩⟩
        by_cases hz : ∃ ks, (z, ks) ∈ PT
        · obtain ⟨ks, hks⟩ := hz
          obtain ⟨t, e1, e2⟩ := C.part _ hks
          have el : PT.lookup z = some ks := pt_at _ hks
          refine ⟨_, rfl, rfl, e1, _, rfl, iteF ?_⟩
          refine ⟨_, rfl, _, _, .ref t, rfl, rfl, ⟨es, n, _, D_PARTS.at_, D_PARTS.lit, e1, rfl⟩, ?_⟩
          refine ⟨_, rfl, _, _, rfl, .inr ⟨_, hS, rfl⟩, _, rfl, _, _, rfl, .inr ⟨_, e2 H, rfl⟩, _, _, rfl, rfl, rfl, _, rfl, ?_⟩
          have ed : deedB (.str z :: r) = (decide (r.length = ks.length) && ((ks.zip r).all fun p => partB p.1 p.2)) := by
            show (match PT.lookup z with
              | some ks => decide (r.length = ks.length) && ((ks.zip r).all fun p => partB p.1 p.2)
              | none => false) = _
            rw [el]
          have ec : decide (V.int ((V.str z :: r).length : Int) = V.int (((ks.map V.str).length : Nat) + 1 : Int)) = decide (r.length = ks.length) := by
            rw [List.length_cons, List.length_map]
            exact decide_eq_decide.mpr ⟨fun h => by have h2 := V.int.inj h; omega, fun h => congrArg V.int (by omega)⟩
          rw [ec]
          by_cases hl : r.length = ks.length
          · rw [decide_eq_true hl]
            refine iteF ?_
            refine ⟨_, rfl, _, rfl, _, rfl, a, _, rfl, hS, fun w => absurd w (not_whole_tail _ _), fun _ b hb => ?_⟩
            have s1 : Same H (upd H b (.tup (cutV (.str z :: r) (some 1) none))) := Same.add hb
            have h1 : (upd H b (.tup (cutV (.str z :: r) (some 1) none))) b = some (.tup r) := upd_same.trans (congrArg (fun l => some (HO.tup l)) (cut_tail _ _))
            generalize upd H b (.tup (cutV (.str z :: r) (some 1) none)) = H1 at s1 h1 ⊢
            refine ⟨t, b, ks.map V.str, r, rfl, .inr ⟨e2 H1, SqT.of h1, fun D hD => ?_⟩⟩
            have hlen : r.length = min (ks.map V.str).length r.length := by
              rw [List.length_map]
              omega
            refine lc_it (walk_zipT hlen) (fun i H2 => Same H1 H2 ∧ H2 D = some (.lst (((ks.zip r).take i).map fun p => V.bl (partB p.1 p.2)))) ⟨Same.add hD, upd_same⟩ (fun i H2 _ p => ⟨e2 H2, Same.tup p.1 (SqT.of h1)⟩) ?_ ?_
            · rintro i v H2 H3 hi ⟨p1, p2⟩ ⟨T, x, y, rfl, hT, rfl, hx, hy⟩
              refine ⟨T, _, rfl, SqT.of upd_same, rfl, _, _, rfl, _, _, rfl, rfl, rfl, ?_⟩
              have hx' : (ks.map V.str)[i]? = some x := hx
              rw [List.getElem?_map] at hx'
              cases ek : ks[i]? with
              | none => rw [ek] at hx'; cases hx'
              | some k =>
                rw [ek] at hx'
                have exk : x = V.str k := (Option.some.inj hx').symm
                subst exk
                have hy' : r[i]? = some y := hy
                have s3 : Same H1 (upd H2 T (.tup [V.str k, y])) := Same.trans p1 (Same.add hT)
                have oky : OkV K (upd H2 T (.tup [V.str k, y])) y := OkV.same (Same.trans s1 s3) (hok y (List.mem_cons_of_mem _ (List.mem_of_getElem? hy')))
                refine ⟨_, rfl, _, rfl, k, y, rfl, oky, pt_kinds _ hks k (List.mem_of_getElem? ek), ?_⟩
                have ez : (ks.zip r)[i]? = some (k, y) := List.getElem?_zip_eq_some.mpr ⟨ek, hy'⟩
                refine ⟨_, Same.add hT D _ p2, line_lt ?_, Same.mut s3 hD, ?_⟩
                · rw [List.length_map, List.length_take, List.length_zip, hl]
                  have := (List.getElem?_eq_some_iff.mp ek).1
                  have h6 : ks.length ≤ 3 := pt_len _ hks
                  omega
                · rw [upd_same, take_succ' ez, List.map_append]
                  rfl
            · rintro H2 ⟨p1, p2⟩
              have ez : (ks.zip r).length = r.length := by
                rw [List.length_zip]
                omega
              rw [← ez, List.take_length] at p2
              have p3 : H2 D = some (.lst (((ks.zip r).map fun p => partB p.1 p.2).map V.bl)) := by
                rw [p2, List.map_map]
                rfl
              refine ⟨D, _, rfl, SqL.of p3, ?_⟩
              have e5 : deedB (.str z :: r) = ((ks.zip r).map fun p => partB p.1 p.2).all id := by
                rw [ed, decide_eq_true hl, Bool.true_and, List.all_map]
                rfl
              rw [← e5]
              exact q H2 (Same.trans s1 p1)
          · rw [decide_eq_false hl]
            refine iteT ?_
            rw [ed, decide_eq_false hl, Bool.false_and] at q
            exact q H (Same.refl H)
        · have ho : z ∈ odd := by
            rcases hodd' z r rfl with h | h
            · exact absurd h hz
            · exact h
          refine ⟨_, rfl, rfl, C.odd z ho, _, rfl, iteT ?_⟩
          have ed : deedB (.str z :: r) = false := by
            show (match PT.lookup z with
              | some ks => decide (r.length = ks.length) && ((ks.zip r).all fun p => partB p.1 p.2)
              | none => false) = _
            rw [hodd z ho]
          rw [ed] at q
          exact q H (Same.refl H)
end
end Bm
set_option maxHeartbeats 800000
namespace Bm
open PySem PySem.Spec PyProof.Rows L2
/-! what a list of values that is a deed looks like -/
theorem numB_iff {v : V} {lo hi : Int} (h : numB v lo hi = true) : ∃ i, v = .int i ∧ lo ≤ i ∧ i ≤ hi := by
  cases v with
  | int i =>
    obtain ⟨h1, h2⟩ := Bool.and_eq_true_iff.mp (show (decide (lo ≤ i) && decide (i ≤ hi)) = true from h)
    exact ⟨i, rfl, of_decide_eq_true h1, of_decide_eq_true h2⟩
  | _ => cases h
theorem isBl_iff {v : V} (h : isBl v = true) : ∃ b, v = .bl b := by
  cases v with
  | bl b => exact ⟨b, rfl⟩
  | _ => cases h
theorem isTm_iff {v : V} (h : isTm v = true) : ∃ k, k < 7 ∧ v = .str (nm TM k) := by
  cases v with
  | str s =>
    obtain ⟨z, hz, e⟩ := List.any_eq_true.mp (show (TM.any fun z => z == s) = true from h)
    have e1 : z = s := eq_of_beq e
    subst e1
    have : ∀ z ∈ TM, ∃ k, k < 7 ∧ z = nm TM k := by decide +kernel
    obtain ⟨k, h1, h2⟩ := this z hz
    exact ⟨k, h1, by rw [← h2]⟩
  | _ => cases h
theorem part_reg {v : V} (h : partB "reg" v = true) : ∃ i, v = .int i ∧ r3 i := numB_iff h
theorem part_k {z : Str} {v : V} (r : Int × Int) (e : ∀ v, partB z v = numB v r.1 r.2) (h : partB z v = true) : ∃ i, v = .int i ∧ r.1 ≤ i ∧ i ≤ r.2 := by
  rw [e v] at h
  exact numB_iff h
theorem zip1 {k : Str} {r : List V} {ks : List Str} (hl : r.length = (k :: ks).length) (h : ((k :: ks).zip r).all (fun p => partB p.1 p.2) = true) : ∃ v r', r = v :: r' ∧ r'.length = ks.length ∧ partB k v = true ∧ (ks.zip r').all (fun p => partB p.1 p.2) = true := by
  cases r with
  | nil => cases hl
  | cons v r' =>
    obtain ⟨h1, h2⟩ := Bool.and_eq_true_iff.mp (show (partB k v && (ks.zip r').all fun p => partB p.1 p.2) = true from h)
    exact ⟨v, r', rfl, Nat.succ.inj hl, h1, h2⟩
theorem nil_of {r : List V} {ks : List Str} (h : ks = []) (hl : r.length = ks.length) : r = [] := by
  subst h
  cases r with
  | nil => rfl
  | cons _ _ => cases hl
theorem deed_of {xs : List V} (h : deedB xs = true) : ∃ d : De, d.ok ∧ xs = d.vals := by
  cases xs with
  | nil => cases h
  | cons x r =>
    cases x with
    | str z =>
      have h : (match PT.lookup z with
        | some ks => decide (r.length = ks.length) && ((ks.zip r).all fun p => partB p.1 p.2)
        | none => false) = true := h
      cases e : PT.lookup z with
      | none => rw [e] at h; cases h
      | some ks =>
        rw [e] at h
        obtain ⟨h1, h2⟩ := Bool.and_eq_true_iff.mp (show (decide (r.length = ks.length) && ((ks.zip r).all fun p => partB p.1 p.2)) = true from h)
        have h1 := of_decide_eq_true h1
        have hm : (z, ks) ∈ PT := by
          have : ∀ (l : List (Str × List Str)) (z : Str) (ks : List Str), l.lookup z = some ks → (z, ks) ∈ l := by
            intro l
            induction l with
            | nil => intro z ks h; cases h
            | cons p l ih =>
              obtain ⟨a, b⟩ := p
              intro z ks h
              rw [List.lookup_cons] at h
              by_cases c : z == a
              · rw [c] at h
                have e1 := eq_of_beq c
                have e2 : b = ks := Option.some.inj h
                rw [e1, ← e2]
                exact List.mem_cons_self ..
              · have c2 : (z == a) = false := by simpa using c
                rw [c2] at h
                exact List.mem_cons_of_mem _ (ih z ks h)
          exact this _ _ _ e
        clear e h
        have cases_ : ∀ p ∈ PT, (∃ k, k < 3 ∧ p = ((nm SG k, []) : Str × List Str)) ∨ (∃ k, k < 7 ∧ 3 ≤ k ∧ p = ((nm SG k, ["reg"]) : Str × List Str)) ∨ (∃ k, k < 8 ∧ p = ((nm SM k, ["reg", "reg", "reg"]) : Str × List Str)) ∨ p = (("plus", ["reg", "reg", "signed six"]) : Str × List Str) ∨
            p = (("set", ["reg", "nine"]) : Str × List Str) ∨ p = (("high", ["reg", "seven"]) : Str × List Str) ∨ p = (("load", ["reg", "reg", "six"]) : Str × List Str) ∨ p = (("store", ["reg", "reg", "six"]) : Str × List Str) ∨
            p = (("jump", ["when", "goal", "far"]) : Str × List Str) ∨ p = (("call", ["goal", "far"]) : Str × List Str) := by decide +kernel
        rcases cases_ _ hm with ⟨k, hk, e⟩ | ⟨k, hk2, hk, e⟩ | ⟨k, hk, e⟩ | e | e | e | e | e | e | e <;> (obtain ⟨rfl, rfl⟩ := Prod.mk.inj e)
        · obtain rfl := nil_of rfl h1
          exact ⟨.sgl k, hk, rfl⟩
        · obtain ⟨v, r, rfl, h1, p1, h2⟩ := zip1 h1 h2
          obtain rfl := nil_of rfl h1
          obtain ⟨a, rfl, ha⟩ := part_reg p1
          exact ⟨.reg k a, ⟨hk, hk2, ha⟩, rfl⟩
        · obtain ⟨v, r, rfl, h1, p1, h2⟩ := zip1 h1 h2
          obtain ⟨v2, r, rfl, h1, p2, h2⟩ := zip1 h1 h2
          obtain ⟨v3, r, rfl, h1, p3, h2⟩ := zip1 h1 h2
          obtain rfl := nil_of rfl h1
          obtain ⟨d, rfl, hd⟩ := part_reg p1
          obtain ⟨a, rfl, ha⟩ := part_reg p2
          obtain ⟨b, rfl, hb⟩ := part_reg p3
          exact ⟨.sum k d a b, ⟨hk, hd, ha, hb⟩, rfl⟩
        · obtain ⟨v, r, rfl, h1, p1, h2⟩ := zip1 h1 h2
          obtain ⟨v2, r, rfl, h1, p2, h2⟩ := zip1 h1 h2
          obtain ⟨v3, r, rfl, h1, p3, h2⟩ := zip1 h1 h2
          obtain rfl := nil_of rfl h1
          obtain ⟨d, rfl, hd⟩ := part_reg p1
          obtain ⟨a, rfl, ha⟩ := part_reg p2
          obtain ⟨n, rfl, hn⟩ := part_k (-32, 31) (fun v => rfl) p3
          exact ⟨.plus d a n, ⟨hd, ha, hn⟩, rfl⟩
        · obtain ⟨v, r, rfl, h1, p1, h2⟩ := zip1 h1 h2
          obtain ⟨v2, r, rfl, h1, p2, h2⟩ := zip1 h1 h2
          obtain rfl := nil_of rfl h1
          obtain ⟨d, rfl, hd⟩ := part_reg p1
          obtain ⟨n, rfl, hn⟩ := part_k (0, 511) (fun v => rfl) p2
          exact ⟨.set d n, ⟨hd, hn⟩, rfl⟩
        · obtain ⟨v, r, rfl, h1, p1, h2⟩ := zip1 h1 h2
          obtain ⟨v2, r, rfl, h1, p2, h2⟩ := zip1 h1 h2
          obtain rfl := nil_of rfl h1
          obtain ⟨d, rfl, hd⟩ := part_reg p1
          obtain ⟨n, rfl, hn⟩ := part_k (0, 127) (fun v => rfl) p2
          exact ⟨.high d n, ⟨hd, hn⟩, rfl⟩
        · obtain ⟨v, r, rfl, h1, p1, h2⟩ := zip1 h1 h2
          obtain ⟨v2, r, rfl, h1, p2, h2⟩ := zip1 h1 h2
          obtain ⟨v3, r, rfl, h1, p3, h2⟩ := zip1 h1 h2
          obtain rfl := nil_of rfl h1
          obtain ⟨d, rfl, hd⟩ := part_reg p1
          obtain ⟨a, rfl, ha⟩ := part_reg p2
          obtain ⟨n, rfl, hn⟩ := part_k (0, 63) (fun v => rfl) p3
          exact ⟨.load d a n, ⟨hd, ha, hn⟩, rfl⟩
        · obtain ⟨v, r, rfl, h1, p1, h2⟩ := zip1 h1 h2
          obtain ⟨v2, r, rfl, h1, p2, h2⟩ := zip1 h1 h2
          obtain ⟨v3, r, rfl, h1, p3, h2⟩ := zip1 h1 h2
          obtain rfl := nil_of rfl h1
          obtain ⟨d, rfl, hd⟩ := part_reg p1
          obtain ⟨a, rfl, ha⟩ := part_reg p2
          obtain ⟨n, rfl, hn⟩ := part_k (0, 63) (fun v => rfl) p3
          exact ⟨.store d a n, ⟨hd, ha, hn⟩, rfl⟩
        · obtain ⟨v, r, rfl, h1, p1, h2⟩ := zip1 h1 h2
          obtain ⟨v2, r, rfl, h1, p2, h2⟩ := zip1 h1 h2
          obtain ⟨v3, r, rfl, h1, p3, h2⟩ := zip1 h1 h2
          obtain rfl := nil_of rfl h1
          obtain ⟨k, hk, rfl⟩ := isTm_iff p1
          obtain ⟨g, rfl, hg⟩ := part_k (0, 65535) (fun v => rfl) p2
          obtain ⟨b, rfl⟩ := isBl_iff p3
          exact ⟨.jump k g b, ⟨hk, hg⟩, rfl⟩
        · obtain ⟨v, r, rfl, h1, p1, h2⟩ := zip1 h1 h2
          obtain ⟨v2, r, rfl, h1, p2, h2⟩ := zip1 h1 h2
          obtain rfl := nil_of rfl h1
          obtain ⟨g, rfl, hg⟩ := part_k (0, 65535) (fun v => rfl) p1
          obtain ⟨b, rfl⟩ := isBl_iff p2
          exact ⟨.call g b, hg, rfl⟩
    | _ => cases h
end Bm
set_option maxHeartbeats 800000
namespace Bm
open PySem PySem.Spec PyProof.Rows L2
theorem sg_look : ∀ k, k < 7 → PT.lookup (nm SG k) = some (if k < 3 then ([] : List Str) else (["reg"] : List Str)) := by decide +kernel
theorem sm_look : ∀ k, k < 8 → PT.lookup (nm SM k) = some (["reg", "reg", "reg"] : List Str) := by decide +kernel
theorem tm_any : ∀ k, k < 7 → isTm (.str (nm TM k)) = true := by decide +kernel
theorem deedB_of {z : Str} {r : List V} {ks : List Str} (e : PT.lookup z = some ks) (hl : r.length = ks.length) (h : ((ks.zip r).all fun p => partB p.1 p.2) = true) : deedB (.str z :: r) = true := by
  show (match PT.lookup z with
    | some ks => decide (r.length = ks.length) && ((ks.zip r).all fun p => partB p.1 p.2)
    | none => false) = true
  rw [e]
  show (decide (r.length = ks.length) && ((ks.zip r).all fun p => partB p.1 p.2)) = true
  rw [decide_eq_true hl, Bool.true_and]
  exact h
theorem numB_of {i lo hi : Int} (h : lo ≤ i ∧ i ≤ hi) : numB (.int i) lo hi = true := by
  show (decide (lo ≤ i) && decide (i ≤ hi)) = true
  rw [decide_eq_true h.1, decide_eq_true h.2]
  rfl
theorem reg_of {i : Int} (h : r3 i) : partB "reg" (.int i) = true := numB_of h
theorem and_of {a b : Bool} (h1 : a = true) (h2 : b = true) : (a && b) = true := by rw [h1, h2]; rfl
theorem deed_vals {d : De} (h : d.ok) : deedB d.vals = true := by
  cases d with
  | sgl k =>
    have hk : k < 3 := h
    have e := sg_look k (Nat.lt_of_lt_of_le hk (by decide))
    rw [if_pos hk] at e
    exact deedB_of e rfl rfl
  | reg k a =>
    have e := sg_look k h.2.1
    rw [if_neg (by have := h.1; omega)] at e
    exact deedB_of e rfl (and_of (reg_of h.2.2) rfl)
  | sum k d a b => exact deedB_of (sm_look k h.1) rfl (and_of (reg_of h.2.1) (and_of (reg_of h.2.2.1) (and_of (reg_of h.2.2.2) rfl)))
  | plus d a n => exact deedB_of (pt_at _ (show (("plus", ["reg", "reg", "signed six"]) : Str × List Str) ∈ PT by decide +kernel)) rfl (and_of (reg_of h.1) (and_of (reg_of h.2.1) (and_of (numB_of h.2.2) rfl)))
  | set d n => exact deedB_of (pt_at _ (show (("set", ["reg", "nine"]) : Str × List Str) ∈ PT by decide +kernel)) rfl (and_of (reg_of h.1) (and_of (numB_of h.2) rfl))
  | high d n => exact deedB_of (pt_at _ (show (("high", ["reg", "seven"]) : Str × List Str) ∈ PT by decide +kernel)) rfl (and_of (reg_of h.1) (and_of (numB_of h.2) rfl))
  | load d a n => exact deedB_of (pt_at _ (show (("load", ["reg", "reg", "six"]) : Str × List Str) ∈ PT by decide +kernel)) rfl (and_of (reg_of h.1) (and_of (reg_of h.2.1) (and_of (numB_of h.2.2) rfl)))
  | store d a n => exact deedB_of (pt_at _ (show (("store", ["reg", "reg", "six"]) : Str × List Str) ∈ PT by decide +kernel)) rfl (and_of (reg_of h.1) (and_of (reg_of h.2.1) (and_of (numB_of h.2.2) rfl)))
  | jump k g f => exact deedB_of (pt_at _ (show (("jump", ["when", "goal", "far"]) : Str × List Str) ∈ PT by decide +kernel)) rfl (and_of (tm_any k h.1) (and_of (numB_of h.2) rfl))
  | call g f => exact deedB_of (pt_at _ (show (("call", ["goal", "far"]) : Str × List Str) ∈ PT by decide +kernel)) rfl (and_of (numB_of h) rfl)
theorem mem_look : ∀ {l : List (Str × List Str)} {z : Str} {ks : List Str}, l.lookup z = some ks → (z, ks) ∈ l := by
  intro l
  induction l with
  | nil => intro z ks h; cases h
  | cons p l ih =>
    obtain ⟨a, b⟩ := p
    intro z ks h
    rw [List.lookup_cons] at h
    by_cases c : z == a
    · rw [c] at h
      have e1 := eq_of_beq c
      have e2 : b = ks := Option.some.inj h
      rw [e1, ← e2]
      exact List.mem_cons_self ..
    · have c2 : (z == a) = false := by simpa using c
      rw [c2] at h
      exact List.mem_cons_of_mem _ (ih h)
theorem deed_name {z : Str} {r : List V} (h : deedB (.str z :: r) = true) : ∃ ks, (z, ks) ∈ PT := by
  have h : (match PT.lookup z with
    | some ks => decide (r.length = ks.length) && ((ks.zip r).all fun p => partB p.1 p.2)
    | none => false) = true := h
  cases e : PT.lookup z with
  | none => rw [e] at h; cases h
  | some ks => exact ⟨ks, mem_look e⟩
theorem vals_ok {K : PySem.W.Frag} {H : Hp} (d : De) : ∀ x ∈ d.vals, OkV K H x := by
  intro x hx
  cases d <;> (simp only [De.vals, List.mem_cons, List.not_mem_nil, or_false] at hx) <;> (first | (rcases hx with rfl | rfl | rfl | rfl) | (rcases hx with rfl | rfl | rfl) | (rcases hx with rfl | rfl) | (rcases hx with rfl)) <;> first | exact .str _ | exact .int _ | exact .bl _
/-! classes of errors -/
structure Ex1 (K : PySem.W.Frag) (mg : Str → Option Value) (x : Str) : Prop where
  g : mg x = some (.ref (He.ga K x))
  c : PySem.W.excIn K (He.ga K x) He.veBase "ValueError.__new__" = true
  e : PySem.W.keepIn K (.ref (He.ga K x)) = true
  b : PySem.W.subIn K (.ref (He.ga K x)) (.type "BaseException") = some true
  t : PySem.W.typeIn K (.ref (He.ga K x)) = some (.type "type")
section
variable {P : Program} {w : World} {K : PySem.W.Frag} {mg : Str → Option Value} {base : Heap} {f : Addr} {fd : FuncData} {dvs : List V} {odd : List Str}
/-! packed -/
abbrev KnD (P : Program) (w : World) (K : PySem.W.Frag) (mg : Str → Option Value) (base : Heap) (odd : List Str) : Prop := Kn P w K mg base CX0 3 "is_deed" ["thing"] [] (spDeed K odd)
abbrev KnW (P : Program) (w : World) (K : PySem.W.Frag) (mg : Str → Option Value) (base : Heap) : Prop := Kn P w K mg base CX0 3 "words_of" ["deed", "place"] [] (spWordsOf K)
def spPacked (K : PySem.W.Frag) (odd : List Str) : Sp := fun vs H Q E => ∃ (a : Addr) (xs : List V) (p : Int), vs = [.ref a, .int p] ∧ SqT K H a xs ∧ (∀ x ∈ xs, OkV K H x) ∧ (∀ z r, xs = .str z :: r → (∃ ks, (z, ks) ∈ PT) ∨ z ∈ odd) ∧
  ((deedB xs = false ∧ ∀ H', Same H H' → E (.ref (He.ga K "BadDeed")) none H') ∨
  ∃ d : De, d.ok ∧ xs = d.vals ∧ (¬ (0 ≤ p ∧ p ≤ 199) → ∀ H', Same H H' → E (.ref (He.ga K "BadCount")) none H') ∧
    (0 ≤ p ∧ p ≤ 199 → ¬ d.reached p → ∀ H', Same H H' → E (.ref (He.ga K "BadReach")) none H') ∧
    (0 ≤ p ∧ p ≤ 199 → d.reached p → ∀ q H', Same H H' → H' q = some (.tup (vInts (d.words p))) → Q (.ref q) H'))
abbrev N_packed : List Str := ["deed", "place", "words"]
theorem sc_packed : FnScope ["deed", "place", "words"] ["deed", "place"] (defScope s_packed) := ⟨rfl, rfl, rfl, by decide +kernel, rfl, by decide +kernel, by decide +kernel⟩
theorem ok_packed (F : FnP K "packed" s_packed dvs f fd) (k_is_deed : KnD P w K mg base odd) (k_is_number : KnN P w K mg base) (k_words_of : KnW P w K mg base) (X1 : Ex1 K mg "BadDeed") (X2 : Ex1 K mg "BadCount") (X3 : Ex1 K mg "BadReach")
    (gm : ∃ t, mg "IMAGE_MOST" = some (.int 200 t)) : FnOk P w K mg base (L2.CX P w) 4 f fd ["deed", "place"] (spPacked K odd) := by
  refine F.ok sc_packed (fun vs H Q E h => ?_) (fun cdv A outer s H vs Q E hr h => ?_)
  · obtain ⟨a, xs, p, rfl, _⟩ := h
    rfl
  · obtain ⟨a, xs, p, rfl, hS, hok, hn, hq⟩ := h
    obtain ⟨g_BadDeed, x_BadDeed, e_BadDeed, b_BadDeed, t_BadDeed⟩ := X1
    obtain ⟨g_BadCount, x_BadCount, e_BadCount, b_BadCount, t_BadCount⟩ := X2
    obtain ⟨g_BadReach, x_BadReach, e_BadReach, b_BadReach, t_BadReach⟩ := X3
    obtain ⟨tk, g_IMAGE_MOST⟩ := gm
    let v_IMAGE_MOST : Int := 200
    refine ⟨_, (pss_cons (ps_if (pt_not (pt_val (pk k_is_deed hr (by decide) rfl pass0 (pa_cons (pv 0) pa_nil)))) (pss_one (ps_raise rfl (takes_of rfl rfl rfl rfl) (pmk_own PySem.F.excBase_ValueError x_BadDeed g_BadDeed e_BadDeed (raises_own b_BadDeed t_BadDeed) rfl))) pss_nil)
      (pss_cons (ps_if (pt_not (pt_val (pk k_is_number hr (by decide) rfl pass0 (pa_cons (pv 1) (pa_cons pe_int (pa_cons (pe_op op_sub (pe_glob (v := .int v_IMAGE_MOST) rfl g_IMAGE_MOST ⟨_, rfl⟩) pe_int) pa_nil)))))) (pss_one (ps_raise rfl (takes_of rfl rfl rfl rfl) (pmk_own PySem.F.excBase_ValueError x_BadCount g_BadCount e_BadCount (raises_own b_BadCount t_BadCount) rfl))) pss_nil)
      (pss_cons (ps_set (i := 2) sc_packed.nd rfl (Or.inl rfl) (pk k_words_of hr (by decide) rfl pass0 (pa_cons (pv 0) (pa_cons (pv 1) pa_nil))))
      (pss_cons (ps_if (pt_cmpR op_isN (pv 2) pe_non (nomark _)) (pss_one (ps_raise rfl (takes_of rfl rfl rfl rfl) (pmk_own PySem.F.excBase_ValueError x_BadReach g_BadReach e_BadReach (raises_own b_BadReach t_BadReach) rfl))) pss_nil)
      (pss_one (ps_ret (pv 2))))))), ?_⟩
    refine ⟨_, rfl, a, xs, rfl, hS, hok, hn, fun H1 s1 => ⟨_, rfl, ?_⟩⟩
    rcases hq with ⟨hb, q1⟩ | ⟨d, hd, rfl, q2, q3, q4⟩
    · rw [hb]
      exact iteT (q1 H1 s1)
    · rw [deed_vals hd]
      refine iteF ⟨_, rfl, _, _, rfl, rfl, _, 0, 199, rfl, .int p, _, rfl, ?_⟩
      by_cases hp : 0 ≤ p ∧ p ≤ 199
      · rw [numB_of hp]
        refine iteF ⟨_, rfl, _, rfl, a, d, p, rfl, Same.tup s1 hS, hd, fun hreach q H2 s2 h2 => ?_, fun hreach => ?_⟩
        · exact ⟨_, rfl, rfl, _, rfl, iteF ⟨_, rfl, q4 hp hreach q H2 (Same.trans s1 s2) h2⟩⟩
        · exact ⟨_, rfl, rfl, _, rfl, iteT (q3 hp hreach H1 s1)⟩
      · have e : numB (.int p) 0 199 = false := by
          cases c : numB (.int p) 0 199 with
          | false => rfl
          | true =>
            obtain ⟨i, e1, e2⟩ := numB_iff c
            rw [← V.int.inj e1] at e2
            exact absurd e2 hp
        rw [e]
        exact iteT (q2 hp H1 s1)
end
end Bm
set_option maxHeartbeats 800000
namespace Bm
open PySem PySem.Spec PyProof.Rows L2
/-! the law's state: the script, how many cells are begun, a mixed number, what is left of a cell -/
structure Sk where
  st : Addr
  sc : Addr
  ns : List Int
def St (K : PySem.W.Frag) (H : Hp) (S : Sk) : Prop := S.ns.length ≤ 63 ∧ SqL K H S.sc (S.ns.map V.int) ∧ ∃ a m c : Int, H S.st = some (.lst [.ref S.sc, .int a, .int m, .int c]) ∧ 0 ≤ a ∧ (0 ≤ m ∧ m < 2147483647) ∧ 0 ≤ c
/-- all but the state stays, the state is one -/
structure Kp (K : PySem.W.Frag) (S : Sk) (H H' : Hp) : Prop where
  but : ∀ b o, b ≠ S.st → H b = some o → H' b = some o
  old : St K H S
  st : St K H' S
theorem St.lst {K : PySem.W.Frag} {H : Hp} {S : Sk} (h : St K H S) : ∃ l, H S.st = some (.lst l) := let ⟨_, _, _, _, _, h1, _⟩ := h; ⟨_, h1⟩
theorem St.same {K : PySem.W.Frag} {H H' : Hp} {S : Sk} (h : St K H S) (e : Same H H') : St K H' S := by
  obtain ⟨h0, h1, a, m, c, h2, h3⟩ := h
  exact ⟨h0, e.seq h1, a, m, c, e _ _ h2, h3⟩
theorem Kp.of {K : PySem.W.Frag} {H H' : Hp} {S : Sk} (h : St K H S) (e : Same H H') : Kp K S H H' := ⟨fun b o _ q => e b o q, h, h.same e⟩
theorem Kp.refl {K : PySem.W.Frag} {H : Hp} {S : Sk} (h : St K H S) : Kp K S H H := Kp.of h (Same.refl H)
theorem Kp.trans {K : PySem.W.Frag} {H H1 H2 : Hp} {S : Sk} (a : Kp K S H H1) (b : Kp K S H1 H2) : Kp K S H H2 := ⟨fun c o n q => b.but c o n (a.but c o n q), a.old, b.st⟩
theorem Kp.same {K : PySem.W.Frag} {H H1 H2 : Hp} {S : Sk} (a : Kp K S H H1) (e : Same H1 H2) : Kp K S H H2 := a.trans (Kp.of a.st e)
theorem Kp.tup {K : PySem.W.Frag} {H H' : Hp} {S : Sk} {p : Addr} {xs : List V} (k : Kp K S H H') (h : SqT K H p xs) : SqT K H' p xs := by
  obtain ⟨l, hl⟩ := k.old.lst
  rcases h with (h | ⟨o, h⟩) | h
  · exact .inl (.inl (k.but _ _ (fun z => by rw [z, hl] at h; cases h) h))
  · exact .inl (.inr ⟨o, k.but _ _ (fun z => by rw [z, hl] at h; cases h) h⟩)
  · exact .inr h
theorem Kp.lst {K : PySem.W.Frag} {H H' : Hp} {S : Sk} {p : Addr} {xs : List V} (k : Kp K S H H') (n : p ≠ S.st) (h : SqL K H p xs) : SqL K H' p xs := by
  rcases h with (h | ⟨o, h⟩) | h
  · exact .inl (.inl (k.but _ _ n h))
  · exact .inl (.inr ⟨o, k.but _ _ n h⟩)
  · exact .inr h
theorem Kp.free {K : PySem.W.Frag} {H H' : Hp} {S : Sk} {p : Addr} (k : Kp K S H H') (h : H' p = none) : H p = none := by
  cases q : H p with
  | none => rfl
  | some o =>
    by_cases e : p = S.st
    · obtain ⟨l, hl⟩ := k.st.lst
      rw [e, hl] at h
      cases h
    · rw [k.but p o e q] at h
      cases h
theorem Kp.add {K : PySem.W.Frag} {H H' : Hp} {S : Sk} {p : Addr} {o : HO} (k : Kp K S H H') (h : H' p = none) : Kp K S H (upd H' p o) := k.same (Same.add h)
theorem St.upd {K : PySem.W.Frag} {H : Hp} {S : Sk} {p : Addr} {o : HO} (h : St K H S) (n : p ≠ S.st) (np : ∀ u, H S.sc = some u → S.sc ≠ p) : St K (upd H p o) S := by
  obtain ⟨h0, h1, a, m, c, h2, h3⟩ := h
  refine ⟨h0, ?_, a, m, c, by rw [upd_ne (Ne.symm n)]; exact h2, h3⟩
  rcases h1 with (h | ⟨u, h⟩) | h
  · exact .inl (.inl (by rw [upd_ne (np _ h)]; exact h))
  · exact .inl (.inr ⟨u, by rw [upd_ne (np _ h)]; exact h⟩)
  · exact .inr h
/-- a thing that H does not know may change -/
theorem Kp.mut {K : PySem.W.Frag} {H H' : Hp} {S : Sk} {p : Addr} {o : HO} (k : Kp K S H H') (h : H p = none) : Kp K S H (upd H' p o) := by
  obtain ⟨l, hl⟩ := k.old.lst
  have n : p ≠ S.st := fun z => by
    rw [z, hl] at h
    cases h
  refine ⟨fun b u nb q => by rw [upd_ne (ne_of_none q h)]; exact k.but b u nb q, k.old, ?_⟩
  obtain ⟨h0, h1, h2⟩ := k.old
  obtain ⟨g0, g1, a, m, c, g2, g3⟩ := k.st
  refine ⟨g0, ?_, a, m, c, by rw [upd_ne (Ne.symm n)]; exact g2, g3⟩
  have h1' : SqL K (L2.upd H' p o) S.sc (S.ns.map V.int) := by
    rcases h1 with (h5 | ⟨u, h5⟩) | h5
    · have np : S.sc ≠ p := ne_of_none h5 h
      have ns : S.sc ≠ S.st := fun z => by
        obtain ⟨_, _, a, m, c, g, _⟩ := k.old
        rw [z, g] at h5
        have e := Option.some.inj h5
        cases e2 : S.ns with
        | nil => rw [e2] at e; cases e
        | cons x r => rw [e2] at e; cases e
      exact .inl (.inl (by rw [upd_ne np]; exact k.but _ _ ns h5))
    · have np : S.sc ≠ p := ne_of_none h5 h
      have ns : S.sc ≠ S.st := fun z => by
        rw [z, hl] at h5
        cases h5
      exact .inl (.inr ⟨u, by rw [upd_ne np]; exact k.but _ _ ns h5⟩)
    · exact .inr h5
  exact h1'
theorem Kp.put {K : PySem.W.Frag} {H : Hp} {S : Sk} {a m c : Int} (h : St K H S) (ha : 0 ≤ a) (hm : 0 ≤ m ∧ m < 2147483647) (hc : 0 ≤ c) : Kp K S H (upd H S.st (.lst [.ref S.sc, .int a, .int m, .int c])) := by
  obtain ⟨h0, h1, a0, m0, c0, h2, h3⟩ := id h
  refine ⟨fun b o n q => by rw [upd_ne n]; exact q, h, h0, ?_, a, m, c, upd_same, ha, hm, hc⟩
  rcases h1 with (h5 | ⟨u, h5⟩) | h5
  · have ns : S.sc ≠ S.st := fun z => by
      rw [z, h2] at h5
      have e := Option.some.inj h5
      cases e2 : S.ns with
      | nil => rw [e2] at e; cases e
      | cons x r => rw [e2] at e; cases e
    exact .inl (.inl (by rw [upd_ne ns]; exact h5))
  · have ns : S.sc ≠ S.st := fun z => by
      rw [z, h2] at h5
      cases h5
    exact .inl (.inr ⟨u, by rw [upd_ne ns]; exact h5⟩)
  · exact .inr h5
section
variable {P : Program} {w : World} {K : PySem.W.Frag} {mg : Str → Option Value} {base : Heap} {f : Addr} {fd : FuncData} {dvs : List V}
/-! _law_start -/
def spStart (K : PySem.W.Frag) : Sp := fun vs H Q _ => ∃ (a : Addr) (ns : List Int), vs = [.ref a] ∧ SqL K H a (ns.map V.int) ∧ ns.length ≤ 63 ∧ ∀ p H', H p = none → Same H H' → St K H' ⟨p, a, ns⟩ → Q (.ref p) H'
abbrev N__law_start : List Str := ["_law_script", "_law_mixed", "_law_cell"]
theorem sc__law_start : FnScope ["_law_script", "_law_mixed", "_law_cell"] ["_law_script"] (defScope s__law_start) := ⟨rfl, rfl, rfl, by decide +kernel, rfl, by decide +kernel, by decide +kernel⟩
theorem ok_start (F : FunD K "_law_start" "_law_start" (defArgs s__law_start) (defBody s__law_start) (defScope s__law_start) dvs [] f fd) : FnOk P w K mg base CX0 1 f fd ["_law_script"] (spStart K) := by
  refine F.ok sc__law_start (fun vs H Q E h => ?_) (fun cdv A outer s H vs Q E hr h => ?_)
  · obtain ⟨a, ns, rfl, _⟩ := h
    rfl
  · obtain ⟨a, ns, rfl, hS, h63, q⟩ := h
    refine ⟨_, PSs.nox (pss_cons (ps_set (i := 1) sc__law_start.nd rfl (Or.inl rfl) pe_int)
      (pss_cons (ps_for PassesOwn.never rfl (pi_list (pv 0)) (pg_name (i := 2) sc__law_start.nd rfl (Or.inl rfl))
      (pss_one (ps_set (i := 1) sc__law_start.nd rfl (Or.inl rfl) (pe_op op_modN (pe_op op_add (pe_op op_add (pe_op op_mul (pv 1) pe_int) (pv 2)) pe_int) pe_int))))
      (pss_one (ps_ret (pe_lst (pa_cons (pv 0) (pa_cons pe_int (pa_cons (pv 1) (pa_cons pe_int pa_nil))))))))), ?_⟩
    refine ⟨_, rfl, a, rfl, ⟨_, hS⟩, for_list (K := K) (a := a) (xs := ns.map V.int) (fun i σ H2 => ∃ (m : Int) (v : Option V), σ = [some (.ref a), some (.int m), v] ∧ H2 = H ∧ 0 ≤ m ∧ m < 2147483647)
      ⟨1, none, rfl, rfl, by decide, by decide⟩ (fun i σ H2 _ ⟨_, _, _, e, _⟩ => by rw [e]; exact hS) ?_ ?_⟩
    · rintro i x σ H2 hi ⟨m, v, rfl, rfl, h0, h1⟩
      rw [List.getElem?_map] at hi
      cases e : ns[i]? with
      | none => rw [e] at hi; cases hi
      | some z =>
        rw [e] at hi
        have ez : x = V.int z := (Option.some.inj hi).symm
        subst ez
        refine ⟨_, rfl, _, _, rfl, rfl, .inl ⟨by omega, by omega⟩, _, rfl, _, _, rfl, rfl, _, _, rfl, rfl, _, _, rfl, rfl, (show (2147483647 : Int) ≠ 0 by decide), ?_⟩
        refine ⟨_, _, rfl, rfl, ?_⟩
        rw [Int.fmod_eq_emod_of_nonneg _ (by decide)]
        omega
    · rintro σ H2 ⟨m, v, rfl, rfl, h0, h1⟩
      exact ⟨_, rfl, _, rfl, line5 (by simp), laid fun p H1 hp s1 h2 => q p H1 hp s1 ⟨h63, s1.seq hS, 0, m, 0, h2, by decide, ⟨h0, h1⟩, by decide⟩⟩
/-! _law_drawn -/
def spDrawn (K : PySem.W.Frag) : Sp := fun vs H Q _ => ∃ (S : Sk) (many : Int), vs = [.ref S.st, .int many] ∧ St K H S ∧ 0 < many ∧ many < 1073741824 ∧ ∀ r H', 0 ≤ r → r < many → Kp K S H H' → Q (.int r) H'
abbrev N__law_drawn : List Str := ["_law_state", "_law_many", "_law_found", "_law_cell"]
theorem sc__law_drawn : FnScope ["_law_state", "_law_many", "_law_found", "_law_cell"] ["_law_state", "_law_many"] (defScope s__law_drawn) := ⟨rfl, rfl, rfl, by decide +kernel, rfl, by decide +kernel, by decide +kernel⟩
theorem ok_drawn (F : FunD K "_law_drawn" "_law_drawn" (defArgs s__law_drawn) (defBody s__law_drawn) (defScope s__law_drawn) dvs [] f fd) (g_len : mg "len" = none) : FnOk P w K mg base CX0 1 f fd ["_law_state", "_law_many"] (spDrawn K) := by
  refine F.ok sc__law_drawn (fun vs H Q E h => ?_) (fun cdv A outer s H vs Q E hr h => ?_)
  · obtain ⟨S, many, rfl, _⟩ := h
    rfl
  · obtain ⟨S, many, rfl, hst, hm0, hm1, q⟩ := h
    obtain ⟨h3, h2, a, m, c, h1, ha, hm, hc⟩ := id hst
    refine ⟨_, PSs.nox (pss_cons (ps_if (pt_cmpR op_gt (pe_ix ix_list (pv 0) pe_int (fun _ _ => rfl)) pe_int (nomark _)) (pss_cons (ps_set (i := 2) sc__law_drawn.nd rfl (Or.inl rfl) (pe_op op_modN (pe_ix ix_list (pv 0) pe_int (fun _ _ => rfl)) (pv 1)))
      (pss_cons (ps_asg (pe_op op_fdivN (pe_ix ix_list (pv 0) pe_int (fun _ _ => rfl)) (pv 1)) (pg_sub (pv 0) pe_int set_list))
      (pss_one (ps_ret (pv 2))))) pss_nil)
      (pss_cons (ps_asg (pe_op op_add (pe_ix ix_list (pv 0) pe_int (fun _ _ => rfl)) pe_int) (pg_sub (pv 0) pe_int set_list))
      (pss_cons (ps_if (pt_cmpR op_le (pe_ix ix_list (pv 0) pe_int (fun _ _ => rfl)) (pe_callB call_len rfl g_len boot_len (pa_cons (pe_ix ix_list (pv 0) pe_int (fun _ _ => rfl)) pa_nil)) (nomark _)) (pss_cons (ps_set (i := 3) sc__law_drawn.nd rfl (Or.inl rfl) (pe_ix ix_list (pe_ix ix_list (pv 0) pe_int (fun _ _ => rfl)) (pe_op op_sub (pe_ix ix_list (pv 0) pe_int (fun _ _ => rfl)) pe_int) (fun _ _ => rfl)))
      (pss_cons (ps_asg (pe_ifExp (pt_cmpR op_ge (pv 3) (pe_op op_pow pe_int pe_int) (nomark _)) (pe_op op_fdivN (pv 3) (pv 1)) pe_int) (pg_sub (pv 0) pe_int set_list))
      (pss_one (ps_ret (pe_op op_modN (pv 3) (pv 1)))))) pss_nil)
      (pss_cons (ps_asg (pe_op op_modN (pe_op op_add (pe_op op_mul (pe_ix ix_list (pv 0) pe_int (fun _ _ => rfl)) pe_int) pe_int) pe_int) (pg_sub (pv 0) pe_int set_list))
      (pss_one (ps_ret (pe_op op_modN (pe_op op_fdivN (pe_ix ix_list (pv 0) pe_int (fun _ _ => rfl)) pe_int) (pv 1)))))))), ?_⟩
    have fm : ∀ x : Int, 0 ≤ x.fmod many ∧ x.fmod many < many := fun x => by
      rw [Int.fmod_eq_emod_of_nonneg _ (by omega)]
      exact ⟨Int.emod_nonneg _ (by omega), Int.emod_lt_of_pos _ hm0⟩
    have at_ : ∀ (y : Addr) (x0 x1 x2 x3 : V), atI [x0, x1, x2, x3] 3 = some x3 ∧ atI [x0, x1, x2, x3] 2 = some x2 ∧ atI [x0, x1, x2, x3] 1 = some x1 ∧ atI [x0, x1, x2, x3] 0 = some x0 := fun y x0 x1 x2 x3 => ⟨atI_nat (j := 3) rfl, atI_nat (j := 2) rfl, atI_nat (j := 1) rfl, atI_nat (j := 0) rfl⟩
    refine ⟨_, rfl, _, _, _, _, rfl, rfl, SqL.of h1, (at_ 0 _ _ _ _).1, _, _, rfl, rfl, _, rfl, ?_⟩
    by_cases hc0 : 0 < c
    · rw [decide_eq_true hc0]
      refine iteT ?_
      refine ⟨_, rfl, _, _, _, _, rfl, rfl, SqL.of h1, (at_ 0 _ _ _ _).1, _, rfl, _, _, rfl, rfl, by omega, ?_⟩
      refine ⟨_, rfl, _, _, _, _, rfl, rfl, SqL.of h1, (at_ 0 _ _ _ _).1, _, rfl, _, _, rfl, rfl, ⟨by omega, by omega⟩, _, rfl, _, _, _, 3, rfl, rfl, h1, rfl, ?_⟩
      refine ⟨_, rfl, q _ _ (fm c).1 (fm c).2 (Kp.put hst ha hm ?_)⟩
      show 0 ≤ c.fdiv many
      rw [Int.fdiv_eq_ediv_of_nonneg _ (by omega)]
      exact Int.ediv_nonneg hc (by omega)
    · rw [decide_eq_false hc0]
      refine iteF ?_
      refine ⟨_, rfl, _, _, _, _, rfl, rfl, SqL.of h1, (at_ 0 _ _ _ _).2.2.1, _, _, rfl, rfl, _, rfl, _, _, _, 1, rfl, rfl, h1, rfl, ?_⟩
      have k1 : Kp K S H (upd H S.st (.lst [.ref S.sc, .int (a + 1), .int m, .int c])) := Kp.put hst (by omega) hm hc
      have e1 : (upd H S.st (.lst [.ref S.sc, .int (a + 1), .int m, .int c])) S.st = some (.lst [.ref S.sc, .int (a + 1), .int m, .int c]) := upd_same
      show tSeq _ _ _ _ (upd H S.st (.lst [.ref S.sc, .int (a + 1), .int m, .int c]))
      generalize upd H S.st (.lst [.ref S.sc, .int (a + 1), .int m, .int c]) = H1 at k1 e1 ⊢
      refine ⟨_, rfl, _, _, _, _, rfl, rfl, SqL.of e1, (at_ 0 _ _ _ _).2.2.1, _, rfl, _, _, _, _, rfl, rfl, SqL.of e1, (at_ 0 _ _ _ _).2.2.2, _, _, rfl, .inl ⟨_, k1.st.2.1, rfl⟩, _, _, rfl, rfl, _, rfl, ?_⟩
      by_cases hl : a + 1 ≤ ((S.ns.map V.int).length : Int)
      · rw [decide_eq_true hl]
        refine iteT ?_
        rw [List.length_map] at hl
        have hat : atI (S.ns.map V.int) (a + 1 - 1) = some (.int (S.ns.getD a.toNat 0)) := by
          have e : a + 1 - 1 = ((a.toNat : Nat) : Int) := by omega
          rw [e]
          refine atI_nat ?_
          rw [List.getElem?_map, List.getD_eq_getElem?_getD]
          have : a.toNat < S.ns.length := by omega
          rw [List.getElem?_eq_getElem this]
          rfl
        generalize S.ns.getD a.toNat 0 = x at hat
        refine ⟨_, rfl, _, _, _, _, rfl, rfl, SqL.of e1, (at_ 0 _ _ _ _).2.2.2, _, rfl, _, _, _, _, rfl, rfl, SqL.of e1, (at_ 0 _ _ _ _).2.2.1, _, _, rfl, rfl, _, _, _, _, rfl, rfl, k1.st.2.1, hat, ?_⟩
        refine ⟨_, rfl, _, _, rfl, rfl, ⟨by decide, by decide, by decide⟩, _, _, rfl, rfl, _, rfl, ?_⟩
        have fin : ∀ z : Int, 0 ≤ z → Kp K S H (upd H1 S.st (.lst [.ref S.sc, .int (a + 1), .int m, .int z])) := fun z hz => k1.trans (Kp.put k1.st (by omega) hm hz)
        by_cases hx : (10 : Int) ^ (18 : Int).toNat ≤ x
        · rw [decide_eq_true hx]
          refine iteT ?_
          refine ⟨_, rfl, _, rfl, _, _, rfl, rfl, ⟨by omega, by omega⟩, _, rfl, _, _, _, 3, rfl, rfl, e1, rfl, ?_⟩
          refine ⟨_, rfl, _, rfl, _, _, rfl, rfl, by omega, q _ _ (fm x).1 (fm x).2 (fin _ ?_)⟩
          show 0 ≤ x.fdiv many
          rw [Int.fdiv_eq_ediv_of_nonneg _ (by omega)]
          exact Int.ediv_nonneg (Int.le_trans (by decide) hx) (by omega)
        · rw [decide_eq_false hx]
          refine iteF ?_
          refine ⟨_, rfl, _, _, _, 3, rfl, rfl, e1, rfl, ?_⟩
          exact ⟨_, rfl, _, rfl, _, _, rfl, rfl, by omega, q _ _ (fm x).1 (fm x).2 (fin _ (by decide))⟩
      · rw [decide_eq_false hl]
        refine iteF ?_
        refine ⟨_, rfl, _, _, _, _, rfl, rfl, SqL.of e1, (at_ 0 _ _ _ _).2.1, _, _, rfl, rfl, .inl ⟨by omega, by omega⟩, _, _, rfl, rfl, _, _, rfl, rfl, (show (2147483647 : Int) ≠ 0 by decide), _, rfl, _, _, _, 2, rfl, rfl, e1, rfl, ?_⟩
        refine ⟨_, rfl, _, _, _, _, rfl, rfl, SqL.of upd_same, (at_ 0 _ _ _ _).2.1, _, _, rfl, rfl, ⟨by decide, by decide⟩, _, rfl, _, _, rfl, rfl, by omega, ?_⟩
        refine q _ _ (fm _).1 (fm _).2 (k1.trans (Kp.put k1.st (by omega) ?_ hc))
        show 0 ≤ (m * 48271 + 11).fmod 2147483647 ∧ (m * 48271 + 11).fmod 2147483647 < 2147483647
        rw [Int.fmod_eq_emod_of_nonneg _ (by decide)]
        omega
end
end Bm
set_option maxHeartbeats 800000
namespace Bm
open PySem PySem.Spec PyProof.Rows L2
section
variable {P : Program} {w : World} {K : PySem.W.Frag} {mg : Str → Option Value} {base : Heap} {f : Addr} {fd : FuncData} {dvs : List V}
/-! lists of names -/
def spNames (l : List Str) : Sp := fun vs H Q _ => vs = [] ∧ ∀ q H', H q = none → Same H H' → H' q = some (.lst (l.map V.str)) → Q (.ref q) H'
abbrev N__law_plain : List Str := []
theorem sc__law_plain : FnScope [] [] (defScope s__law_plain) := ⟨rfl, rfl, rfl, by decide +kernel, rfl, by decide +kernel, by decide +kernel⟩
abbrev N__law_pairs : List Str := []
theorem sc__law_pairs : FnScope [] [] (defScope s__law_pairs) := ⟨rfl, rfl, rfl, by decide +kernel, rfl, by decide +kernel, by decide +kernel⟩
abbrev N__law_times : List Str := []
theorem sc__law_times : FnScope [] [] (defScope s__law_times) := ⟨rfl, rfl, rfl, by decide +kernel, rfl, by decide +kernel, by decide +kernel⟩
theorem ok_plain (F : FunD K "_law_plain" "_law_plain" (defArgs s__law_plain) (defBody s__law_plain) (defScope s__law_plain) dvs [] f fd) : FnOk P w K mg base CX0 1 f fd [] (spNames SG) := by
  refine F.ok sc__law_plain (fun vs H Q E h => by rw [h.1]; rfl) (fun cdv A outer s H vs Q E hr h => ?_)
  obtain ⟨rfl, q⟩ := h
  refine ⟨_, PSs.nox (pss_one (ps_ret (pe_lst (pa_cons pe_str (pa_cons pe_str (pa_cons pe_str (pa_cons pe_str (pa_cons pe_str (pa_cons pe_str (pa_cons pe_str pa_nil)))))))))), ?_⟩
  exact ⟨line5 (by simp), laid fun q' H1 hq s1 h1 => q q' H1 hq s1 h1⟩
theorem ok_pairs (F : FunD K "_law_pairs" "_law_pairs" (defArgs s__law_pairs) (defBody s__law_pairs) (defScope s__law_pairs) dvs [] f fd) : FnOk P w K mg base CX0 1 f fd [] (spNames SM) := by
  refine F.ok sc__law_pairs (fun vs H Q E h => by rw [h.1]; rfl) (fun cdv A outer s H vs Q E hr h => ?_)
  obtain ⟨rfl, q⟩ := h
  refine ⟨_, PSs.nox (pss_one (ps_ret (pe_lst (pa_cons pe_str (pa_cons pe_str (pa_cons pe_str (pa_cons pe_str (pa_cons pe_str (pa_cons pe_str (pa_cons pe_str (pa_cons pe_str pa_nil))))))))))), ?_⟩
  exact ⟨line5 (by simp), laid fun q' H1 hq s1 h1 => q q' H1 hq s1 h1⟩
theorem ok_times (F : FunD K "_law_times" "_law_times" (defArgs s__law_times) (defBody s__law_times) (defScope s__law_times) dvs [] f fd) : FnOk P w K mg base CX0 1 f fd [] (spNames TM) := by
  refine F.ok sc__law_times (fun vs H Q E h => by rw [h.1]; rfl) (fun cdv A outer s H vs Q E hr h => ?_)
  obtain ⟨rfl, q⟩ := h
  refine ⟨_, PSs.nox (pss_one (ps_ret (pe_lst (pa_cons pe_str (pa_cons pe_str (pa_cons pe_str (pa_cons pe_str (pa_cons pe_str (pa_cons pe_str (pa_cons pe_str pa_nil)))))))))), ?_⟩
  exact ⟨line5 (by simp), laid fun q' H1 hq s1 h1 => q q' H1 hq s1 h1⟩
abbrev KnDr (P : Program) (w : World) (K : PySem.W.Frag) (mg : Str → Option Value) (base : Heap) : Prop := Kn P w K mg base CX0 1 "_law_drawn" ["_law_state", "_law_many"] [] (spDrawn K)
/-! _law_number -/
def spNumber (K : PySem.W.Frag) : Sp := fun vs H Q _ => ∃ (S : Sk) (lo hi : Int), vs = [.ref S.st, .int lo, .int hi] ∧ St K H S ∧ lo ≤ hi ∧ hi - lo + 1 < 1073741824 ∧ ∀ r H', lo ≤ r → r ≤ hi → Kp K S H H' → Q (.int r) H'
abbrev N__law_number : List Str := ["_law_state", "_law_low", "_law_high", "_law_many", "_law_way"]
theorem sc__law_number : FnScope ["_law_state", "_law_low", "_law_high", "_law_many", "_law_way"] ["_law_state", "_law_low", "_law_high"] (defScope s__law_number) := ⟨rfl, rfl, rfl, by decide +kernel, rfl, by decide +kernel, by decide +kernel⟩
theorem two_ {x y : V} {i : Int} (h0 : 0 ≤ i) (h1 : i < 2) : atI [x, y] i = some (if i = 0 then x else y) := by
  have e : i = 0 ∨ i = 1 := by omega
  rcases e with rfl | rfl
  · exact atI_nat (j := 0) rfl
  · exact atI_nat (j := 1) rfl
theorem ok_number (F : FunD K "_law_number" "_law_number" (defArgs s__law_number) (defBody s__law_number) (defScope s__law_number) dvs [] f fd) (k__law_drawn : KnDr P w K mg base) (g_min : mg "min" = none) : FnOk P w K mg base CX0 2 f fd ["_law_state", "_law_low", "_law_high"] (spNumber K) := by
  refine F.ok sc__law_number (fun vs H Q E h => ?_) (fun cdv A outer s H vs Q E hr h => ?_)
  · obtain ⟨S, lo, hi, rfl, _⟩ := h
    rfl
  · obtain ⟨S, lo, hi, rfl, hst, h1, h2, q⟩ := h
    refine ⟨_, PSs.nox (pss_cons (ps_set (i := 3) sc__law_number.nd rfl (Or.inl rfl) (pe_op op_add (pe_op op_sub (pv 2) (pv 1)) pe_int))
      (pss_cons (ps_set (i := 4) sc__law_number.nd rfl (Or.inl rfl) (pk k__law_drawn hr (by decide) rfl pass0 (pa_cons (pv 0) (pa_cons pe_int pa_nil))))
      (pss_cons (ps_if (pt_cmpR op_lt (pv 4) pe_int (nomark _)) (pss_one (ps_ret (pe_ix ix_list (pe_lst (pa_cons (pv 1) (pa_cons (pv 2) pa_nil))) (pv 4) (fun _ _ => rfl)))) pss_nil)
      (pss_one (ps_ret (pe_op op_add (pv 1) (pk k__law_drawn hr (by decide) rfl pass0 (pa_cons (pv 0) (pa_cons (pe_ix ix_list (pe_lst (pa_cons (pv 3) (pa_cons (pe_callB (call_min2 rfl) rfl g_min (by decide +kernel) (pa_cons pe_int (pa_cons (pv 3) pa_nil))) pa_nil))) (pe_op op_sub (pv 4) pe_int) (fun _ _ => rfl)) pa_nil))))))))), ?_⟩
    refine ⟨_, rfl, _, rfl, _, _, rfl, rfl, _, _, rfl, rfl, _, rfl, S, 4, rfl, hst, by decide, by decide, fun way H1 w0 w1 k1 => ⟨_, rfl, _, _, rfl, rfl, _, rfl, ?_⟩⟩
    by_cases hw : way < 2
    · rw [decide_eq_true hw]
      refine iteT ⟨_, rfl, _, rfl, line5 (by simp), fun p hp => ?_⟩
      refine ⟨_, rfl, _, _, _, _, rfl, rfl, SqL.of upd_same, two_ w0 hw, ?_⟩
      by_cases e : way = 0
      · rw [if_pos e]
        exact q _ _ (Int.le_refl _) h1 (k1.add hp)
      · rw [if_neg e]
        exact q _ _ h1 (Int.le_refl _) (k1.add hp)
    · rw [decide_eq_false hw]
      refine iteF ⟨_, rfl, _, rfl, _, rfl, _, rfl, _, _, rfl, line5 (by simp), fun p hp => ?_⟩
      have k2 := k1.add (o := .lst [.int (hi - lo + 1), .int (if hi - lo + 1 < 4 then hi - lo + 1 else 4)]) hp
      refine ⟨_, rfl, _, _, rfl, rfl, _, _, _, .int (if way - 2 = 0 then hi - lo + 1 else if hi - lo + 1 < 4 then hi - lo + 1 else 4), rfl, rfl, SqL.of upd_same, ?_, ?_⟩
      · have e := two_ (x := .int (hi - lo + 1)) (y := .int (if hi - lo + 1 < 4 then hi - lo + 1 else 4)) (i := way - 2) (by omega) (by omega)
        rw [e]
        split <;> rfl
      · have b : 0 < (if way - 2 = 0 then hi - lo + 1 else if hi - lo + 1 < 4 then hi - lo + 1 else 4) ∧ (if way - 2 = 0 then hi - lo + 1 else if hi - lo + 1 < 4 then hi - lo + 1 else 4) ≤ hi - lo + 1 := by
          split
          · omega
          · split <;> omega
        refine ⟨S, _, rfl, k2.st, b.1, by omega, fun r H3 r0 r1 k3 => ⟨_, _, rfl, rfl, ?_⟩⟩
        exact q _ _ (by omega) (by omega) (k2.trans k3)
end
end Bm
set_option maxHeartbeats 1600000
namespace Bm
open PySem PySem.Spec PyProof.Rows L2
section
variable {P : Program} {w : World} {K : PySem.W.Frag} {mg : Str → Option Value} {base : Heap} {f : Addr} {fd : FuncData} {dvs : List V}
abbrev KnNum (P : Program) (w : World) (K : PySem.W.Frag) (mg : Str → Option Value) (base : Heap) : Prop := Kn P w K mg base CX0 2 "_law_number" ["_law_state", "_law_low", "_law_high"] [] (spNumber K)
abbrev KnNm (P : Program) (w : World) (K : PySem.W.Frag) (mg : Str → Option Value) (base : Heap) (x : Str) (l : List Str) : Prop := Kn P w K mg base CX0 1 x [] [] (spNames l)
/-! _law_deed -/
def De.below (m : Int) : De → Prop
  | .jump _ g _ => g ≤ m
  | .call g _ => g ≤ m
  | _ => True
def spLDeed (K : PySem.W.Frag) : Sp := fun vs H Q _ => ∃ (S : Sk) (p m : Int), vs = [.ref S.st, .int p, .int m] ∧ St K H S ∧ 0 ≤ m ∧ m ≤ 65535 ∧ ∀ (d : De) q H', d.ok → d.reached p → d.below m → Kp K S H H' → H' q = some (.tup d.vals) → Q (.ref q) H'
abbrev N__law_deed : List Str := ["_law_state", "_law_place", "_law_most", "_law_way", "_law_d", "_law_a", "_law_b", "_law_word", "_law_low", "_law_high", "_law_far", "_law_there"]
theorem sc__law_deed : FnScope ["_law_state", "_law_place", "_law_most", "_law_way", "_law_d", "_law_a", "_law_b", "_law_word", "_law_low", "_law_high", "_law_far", "_law_there"] ["_law_state", "_law_place", "_law_most"] (defScope s__law_deed) := ⟨rfl, rfl, rfl, by decide +kernel, rfl, by decide +kernel, by decide +kernel⟩
theorem nat_of {r n : Int} (h0 : 0 ≤ r) (h1 : r < n) : ∃ k : Nat, r = (k : Int) ∧ k < n.toNat := ⟨r.toNat, by omega, by omega⟩
theorem at_nm {l : List Str} {k : Nat} (h : k < l.length) : atI (l.map V.str) (k : Int) = some (.str (nm l k)) := by
  refine atI_nat ?_
  rw [List.getElem?_map, List.getElem?_eq_getElem h]
  show some (V.str l[k]) = some (V.str (l.getD k ""))
  rw [List.getD_eq_getElem?_getD, List.getElem?_eq_getElem h]
  rfl
theorem sg_first : ∀ k, k < 7 → inV (.str (nm SG k)) [.str "halt", .str "rest", .str "back"] = decide (k < 3) := by decide +kernel
theorem ok_ldeed (F : FunD K "_law_deed" "_law_deed" (defArgs s__law_deed) (defBody s__law_deed) (defScope s__law_deed) dvs [] f fd) (k__law_drawn : KnDr P w K mg base) (k__law_number : KnNum P w K mg base)
    (k__law_plain : KnNm P w K mg base "_law_plain" SG) (k__law_pairs : KnNm P w K mg base "_law_pairs" SM) (k__law_times : KnNm P w K mg base "_law_times" TM) (g_min : mg "min" = none) (g_max : mg "max" = none) : FnOk P w K mg base CX0 3 f fd ["_law_state", "_law_place", "_law_most"] (spLDeed K) := by
  refine F.ok sc__law_deed (fun vs H Q E h => ?_) (fun cdv A outer s H vs Q E hr h => ?_)
  · obtain ⟨S, p, m, rfl, _⟩ := h
    rfl
  · obtain ⟨S, p, m, rfl, hst, hm0, hm1, q⟩ := h
    refine ⟨_, PSs.nox (pss_cons (ps_set (i := 3) sc__law_deed.nd rfl (Or.inl rfl) (pk k__law_drawn hr (by decide) rfl pass0 (pa_cons (pv 0) (pa_cons pe_int pa_nil))))
      (pss_cons (ps_par3 (i := 4) (j := 5) (l := 6) rfl sc__law_deed.nd rfl rfl rfl (by decide) (by decide) (by decide) rfl rfl rfl (pa_cons (pk k__law_drawn hr (by decide) rfl pass0 (pa_cons (pv 0) (pa_cons pe_int pa_nil))) (pa_cons (pk k__law_drawn hr (by decide) rfl pass0 (pa_cons (pv 0) (pa_cons pe_int pa_nil))) (pa_cons (pk k__law_drawn hr (by decide) rfl pass0 (pa_cons (pv 0) (pa_cons pe_int pa_nil))) pa_nil))) rfl)
      (pss_cons (ps_if (pt_cmpR op_lt (pv 3) pe_int (nomark _)) (pss_cons (ps_set (i := 7) sc__law_deed.nd rfl (Or.inl rfl) (pe_ix ix_list (pk0 k__law_plain hr (by decide) rfl pass0) (pk k__law_drawn hr (by decide) rfl pass0 (pa_cons (pv 0) (pa_cons pe_int pa_nil))) (fun _ _ => rfl)))
      (pss_one (ps_ret (pe_ifExp (pt_cmpR op_in_seq (pv 7) (pe_tup (pa_cons pe_str (pa_cons pe_str (pa_cons pe_str pa_nil)))) rfl) (pe_tup (pa_cons (pv 7) pa_nil)) (pe_tup (pa_cons (pv 7) (pa_cons (pv 5) pa_nil))))))) pss_nil)
      (pss_cons (ps_if (pt_cmpR op_lt (pv 3) pe_int (nomark _)) (pss_one (ps_ret (pe_tup (pa_cons (pe_ix ix_list (pk0 k__law_pairs hr (by decide) rfl pass0) (pk k__law_drawn hr (by decide) rfl pass0 (pa_cons (pv 0) (pa_cons pe_int pa_nil))) (fun _ _ => rfl)) (pa_cons (pv 4) (pa_cons (pv 5) (pa_cons (pv 6) pa_nil))))))) pss_nil)
      (pss_cons (ps_if (pt_cmpR op_lt (pv 3) pe_int (nomark _)) (pss_cons (ps_asg (pe_ix ix_list (pe_lst (pa_cons (pe_tup (pa_cons (pe_op op_sub pe_int pe_int) (pa_cons pe_int pa_nil))) (pa_cons (pe_tup (pa_cons pe_int (pa_cons pe_int pa_nil))) (pa_cons (pe_tup (pa_cons pe_int (pa_cons pe_int pa_nil))) (pa_cons (pe_tup (pa_cons pe_int (pa_cons pe_int pa_nil))) pa_nil))))) (pe_op op_sub (pv 3) pe_int) (fun _ _ => rfl)) (pg_tup rfl (pgs_cons (pg_name (i := 8) sc__law_deed.nd rfl (Or.inl rfl)) (pgs_cons (pg_name (i := 9) sc__law_deed.nd rfl (Or.inl rfl)) pgs_nil))))
      (pss_cons (ps_set (i := 7) sc__law_deed.nd rfl (Or.inl rfl) (pe_ix ix_list (pe_lst (pa_cons pe_str (pa_cons pe_str (pa_cons pe_str (pa_cons (pe_ix ix_list (pe_lst (pa_cons pe_str (pa_cons pe_str pa_nil))) (pk k__law_drawn hr (by decide) rfl pass0 (pa_cons (pv 0) (pa_cons pe_int pa_nil))) (fun _ _ => rfl)) pa_nil))))) (pe_op op_sub (pv 3) pe_int) (fun _ _ => rfl)))
      (pss_one (ps_ret (pe_op op_catA (pe_op op_catA (pe_tup (pa_cons (pv 7) (pa_cons (pv 4) pa_nil))) (pe_ifExp (pt_cmpR op_in_seq (pv 3) (pe_tup (pa_cons pe_int (pa_cons pe_int pa_nil))) rfl) (pe_tup (pa_cons (pv 5) pa_nil)) (pe_tup pa_nil))) (pe_tup (pa_cons (pk k__law_number hr (by decide) rfl pass0 (pa_cons (pv 0) (pa_cons (pv 8) (pa_cons (pv 9) pa_nil)))) pa_nil))))))) pss_nil)
      (pss_cons (ps_set (i := 10) sc__law_deed.nd rfl (Or.inl rfl) (pe_cmpR op_eq (pk k__law_drawn hr (by decide) rfl pass0 (pa_cons (pv 0) (pa_cons pe_int pa_nil))) pe_int (nomark _)))
      (pss_cons (ps_set (i := 11) sc__law_deed.nd rfl (Or.inl rfl) (pk k__law_drawn hr (by decide) rfl pass0 (pa_cons (pv 0) (pa_cons (pe_op op_add (pv 2) pe_int) pa_nil))))
      (Evl.pss_cut (ps_if (pt_not (pt_val (pv 10))) (pss_cons (ps_set (i := 11) sc__law_deed.nd rfl (Or.inl rfl) (pe_callB (call_max2 rfl) rfl g_max (by decide +kernel) (pa_cons pe_int (pa_cons (pe_callB (call_min2 rfl) rfl g_min (by decide +kernel) (pa_cons (pv 2) (pa_cons (pe_callB (call_max2 rfl) rfl g_max (by decide +kernel) (pa_cons (pe_op op_sub (pv 1) pe_int) (pa_cons (pe_callB (call_min2 rfl) rfl g_min (by decide +kernel) (pa_cons (pe_op op_add (pv 1) pe_int) (pa_cons (pv 11) pa_nil))) pa_nil))) pa_nil))) pa_nil))))
      (pss_one (ps_set (i := 10) sc__law_deed.nd rfl (Or.inl rfl) (pe_not (pe_chain op_le op_le (pe_op op_sub (pv 1) pe_int) (pv 11) (pe_op op_add (pv 1) pe_int)))))) pss_nil)
      (pss_one (ps_ret (pe_ifExp (pt_cmpR op_eq (pv 3) pe_int (nomark _)) (pe_tup (pa_cons pe_str (pa_cons (pe_ix ix_list (pk0 k__law_times hr (by decide) rfl pass0) (pk k__law_drawn hr (by decide) rfl pass0 (pa_cons (pv 0) (pa_cons pe_int pa_nil))) (fun _ _ => rfl)) (pa_cons (pv 11) (pa_cons (pv 10) pa_nil))))) (pe_tup (pa_cons pe_str (pa_cons (pv 11) (pa_cons (pv 10) pa_nil))))))))))))))), ?_⟩
    refine ⟨_, rfl, S, 10, rfl, hst, by decide, by decide, fun way H1 w0 w1 k1 => ?_⟩
    refine ⟨_, rfl, S, 8, rfl, k1.st, by decide, by decide, fun d H2 d0 d1 k2 => ⟨_, rfl, S, 8, rfl, k2.st, by decide, by decide, fun a H3 a0 a1 k3 => ⟨_, rfl, S, 8, rfl, k3.st, by decide, by decide, fun b H4 b0 b1 k4 => ⟨_, _, _, rfl, ?_⟩⟩⟩⟩
    have kk := ((k1.trans k2).trans k3).trans k4
    clear k1 k2 k3 k4
    refine ⟨_, rfl, _, _, rfl, rfl, _, rfl, ?_⟩
    by_cases c1 : way < 2
    · rw [decide_eq_true c1]
      refine iteT ⟨rfl, fun l H5 hl s5 h5 => ⟨_, rfl, S, 7, rfl, kk.st.same s5, by decide, by decide, fun r H6 r0 r1 k6 => ?_⟩⟩
      obtain ⟨k, rfl, hk⟩ := nat_of r0 r1
      have hk : k < 7 := hk
      obtain ⟨ls, hls⟩ := kk.st.lst
      have nl : l ≠ S.st := Ne.symm (ne_of_none hls hl)
      have k5 := (kk.same s5).trans k6
      refine ⟨_, _, _, _, rfl, rfl, k6.lst nl (SqL.of h5), at_nm hk, ?_⟩
      refine ⟨_, rfl, line5 (by simp), fun p1 hp1 => ?_⟩
      refine ⟨_, _, rfl, .inr (SqT.of upd_same), rfl, rfl, _, rfl, ?_⟩
      have e3 := sg_first k hk
      show if inV (.str (nm SG k)) [.str "halt", .str "rest", .str "back"] = true then _ else _
      rw [e3]
      have k7 := k5.add (o := .tup [.str "halt", .str "rest", .str "back"]) hp1
      by_cases c4 : k < 3
      · rw [decide_eq_true c4]
        exact iteT ⟨_, rfl, line5 (by simp), laid fun q' H8 _ s8 h8 => q (.sgl k) q' H8 c4 trivial trivial (k7.same s8) h8⟩
      · rw [decide_eq_false c4]
        exact iteF ⟨_, rfl, _, rfl, line5 (by simp), laid fun q' H8 _ s8 h8 => q (.reg k a) q' H8 ⟨by omega, hk, by omega, by omega⟩ trivial trivial (k7.same s8) h8⟩
    · rw [decide_eq_false c1]
      refine iteF ⟨_, rfl, _, _, rfl, rfl, _, rfl, ?_⟩
      by_cases c2 : way < 4
      · rw [decide_eq_true c2]
        refine iteT ⟨rfl, fun l H5 hl s5 h5 => ⟨_, rfl, S, 8, rfl, kk.st.same s5, by decide, by decide, fun r H6 r0 r1 k6 => ?_⟩⟩
        obtain ⟨k, rfl, hk⟩ := nat_of r0 r1
        have hk : k < 8 := hk
        obtain ⟨ls, hls⟩ := kk.st.lst
        have nl : l ≠ S.st := Ne.symm (ne_of_none hls hl)
        have k5 := (kk.same s5).trans k6
        refine ⟨_, _, _, _, rfl, rfl, k6.lst nl (SqL.of h5), at_nm hk, ?_⟩
        exact ⟨_, rfl, _, rfl, _, rfl, line5 (by simp), laid fun q' H8 _ s8 h8 => q (.sum k d a b) q' H8 ⟨hk, ⟨by omega, by omega⟩, ⟨by omega, by omega⟩, by omega, by omega⟩ trivial trivial (k5.same s8) h8⟩
      · rw [decide_eq_false c2]
        refine iteF ⟨_, rfl, _, _, rfl, rfl, _, rfl, ?_⟩
        by_cases c3 : way < 8
        · rw [decide_eq_true c3]
          refine iteT ?_
          refine ⟨_, _, rfl, rfl, line5 (by simp), fun p1 hp1 => ?_⟩
          have s5 : Same H4 (upd H4 p1 (.tup [.int (0 - 32), .int 31])) := Same.add hp1
          have e1 : (upd H4 p1 (.tup [.int (0 - 32), .int 31])) p1 = some (.tup [.int (0 - 32), .int 31]) := upd_same
          generalize upd H4 p1 (.tup [.int (0 - 32), .int 31]) = H5 at s5 e1 ⊢
          refine ⟨line5 (by simp), fun p2 hp2 => ?_⟩
          have s6 : Same H5 (upd H5 p2 (.tup [.int 0, .int 511])) := Same.add hp2
          have e2 : (upd H5 p2 (.tup [.int 0, .int 511])) p2 = some (.tup [.int 0, .int 511]) := upd_same
          generalize upd H5 p2 (.tup [.int 0, .int 511]) = H6 at s6 e2 ⊢
          refine ⟨line5 (by simp), fun p3 hp3 => ?_⟩
          have s7 : Same H6 (upd H6 p3 (.tup [.int 0, .int 127])) := Same.add hp3
          have e3 : (upd H6 p3 (.tup [.int 0, .int 127])) p3 = some (.tup [.int 0, .int 127]) := upd_same
          generalize upd H6 p3 (.tup [.int 0, .int 127]) = H7 at s7 e3 ⊢
          refine ⟨line5 (by simp), fun p4 hp4 => ?_⟩
          have s8 : Same H7 (upd H7 p4 (.tup [.int 0, .int 63])) := Same.add hp4
          have e4 : (upd H7 p4 (.tup [.int 0, .int 63])) p4 = some (.tup [.int 0, .int 63]) := upd_same
          generalize upd H7 p4 (.tup [.int 0, .int 63]) = H8 at s8 e4 ⊢
          refine ⟨line5 (by simp), fun l hl => ?_⟩
          have s9 : Same H8 (upd H8 l (.lst [.ref p1, .ref p2, .ref p3, .ref p4])) := Same.add hl
          have e9 : (upd H8 l (.lst [.ref p1, .ref p2, .ref p3, .ref p4])) l = some (.lst [.ref p1, .ref p2, .ref p3, .ref p4]) := upd_same
          generalize upd H8 l (.lst [.ref p1, .ref p2, .ref p3, .ref p4]) = H9 at s9 e9 ⊢
          have kA := ((((kk.same s5).same s6).same s7).same s8).same s9
          have f1 := s9 _ _ (s8 _ _ (s7 _ _ (s6 _ _ e1)))
          have f2 := s9 _ _ (s8 _ _ (s7 _ _ e2))
          have f3 := s9 _ _ (s8 _ _ e3)
          have f4 := s9 _ _ e4
          have pick : ∃ tp lo hi, atI [V.ref p1, .ref p2, .ref p3, .ref p4] (way - 4) = some (.ref tp) ∧ H9 tp = some (.tup [.int lo, .int hi]) ∧ ((way = 4 ∧ lo = 0 - 32 ∧ hi = 31) ∨ (way = 5 ∧ lo = 0 ∧ hi = 511) ∨ (way = 6 ∧ lo = 0 ∧ hi = 127) ∨ (way = 7 ∧ lo = 0 ∧ hi = 63)) := by
            have e : way = 4 ∨ way = 5 ∨ way = 6 ∨ way = 7 := by omega
            rcases e with rfl | rfl | rfl | rfl
            · exact ⟨p1, 0 - 32, 31, atI_nat (j := 0) rfl, f1, .inl ⟨rfl, rfl, rfl⟩⟩
            · exact ⟨p2, 0, 511, atI_nat (j := 1) rfl, f2, .inr (.inl ⟨rfl, rfl, rfl⟩)⟩
            · exact ⟨p3, 0, 127, atI_nat (j := 2) rfl, f3, .inr (.inr (.inl ⟨rfl, rfl, rfl⟩))⟩
            · exact ⟨p4, 0, 63, atI_nat (j := 3) rfl, f4, .inr (.inr (.inr ⟨rfl, rfl, rfl⟩))⟩
          obtain ⟨tp, lo, hi, hat, htp, hlh⟩ := pick
          refine ⟨_, rfl, _, _, rfl, rfl, _, _, _, _, rfl, rfl, SqL.of e9, hat, tp, _, rfl, SqT.of htp, rfl, _, _, rfl, _, _, rfl, rfl, ?_⟩
          clear f1 f2 f3 f4 hat htp e9 e4 e3 e2 e1 s5 s6 s7 s8 s9 hp1 hp2 hp3 hp4 hl
          -- the word
          clear p1 p2 p3 p4 l
          refine ⟨line5 (by simp), fun p1 hp1 => ?_⟩
          have s5 : Same H9 (upd H9 p1 (.lst [.str "load", .str "store"])) := Same.add hp1
          have e1 : (upd H9 p1 (.lst [.str "load", .str "store"])) p1 = some (.lst [.str "load", .str "store"]) := upd_same
          generalize upd H9 p1 (.lst [.str "load", .str "store"]) = Ha at s5 e1 ⊢
          refine ⟨_, rfl, S, 2, rfl, (kA.same s5).st, by decide, by decide, fun r Hb r0 r1 k6 => ?_⟩
          obtain ⟨ls, hls⟩ := kA.st.lst
          have n1 : p1 ≠ S.st := Ne.symm (ne_of_none hls hp1)
          refine ⟨_, _, _, _, rfl, rfl, k6.lst n1 (SqL.of e1), two_ r0 r1, line5 (by simp), fun l hl => ?_⟩
          have s7 : Same Hb (upd Hb l (.lst [.str "plus", .str "set", .str "high", if r = 0 then .str "load" else .str "store"])) := Same.add hl
          have e7 : (upd Hb l (.lst [.str "plus", .str "set", .str "high", if r = 0 then .str "load" else .str "store"])) l = some (.lst [.str "plus", .str "set", .str "high", if r = 0 then .str "load" else .str "store"]) := upd_same
          generalize upd Hb l (.lst [.str "plus", .str "set", .str "high", if r = 0 then .str "load" else .str "store"]) = Hc at s7 e7 ⊢
          have kB := ((kA.same s5).trans k6).same s7
          have pick2 : ∃ wd : Str, atI [V.str "plus", .str "set", .str "high", (if r = 0 then V.str "load" else V.str "store")] (way - 4) = some (.str wd) ∧ ((way = 4 ∧ wd = "plus") ∨ (way = 5 ∧ wd = "set") ∨ (way = 6 ∧ wd = "high") ∨ (way = 7 ∧ wd = "load") ∨ (way = 7 ∧ wd = "store")) := by
            have e : way = 4 ∨ way = 5 ∨ way = 6 ∨ way = 7 := by omega
            rcases e with rfl | rfl | rfl | rfl
            · exact ⟨_, atI_nat (j := 0) rfl, .inl ⟨rfl, rfl⟩⟩
            · exact ⟨_, atI_nat (j := 1) rfl, .inr (.inl ⟨rfl, rfl⟩)⟩
            · exact ⟨_, atI_nat (j := 2) rfl, .inr (.inr (.inl ⟨rfl, rfl⟩))⟩
            · by_cases e0 : r = 0
              · rw [if_pos e0]
                exact ⟨_, atI_nat (j := 3) rfl, .inr (.inr (.inr (.inl ⟨rfl, rfl⟩)))⟩
              · rw [if_neg e0]
                exact ⟨_, atI_nat (j := 3) rfl, .inr (.inr (.inr (.inr ⟨rfl, rfl⟩)))⟩
          obtain ⟨wd, hat, hwd⟩ := pick2
          refine ⟨_, rfl, _, _, rfl, rfl, _, _, _, _, rfl, rfl, SqL.of e7, hat, ?_⟩
          clear hat e7 s7 s5 e1
          have glue : ∀ (Hd : Hp) (t1 : Addr) (xs : List V) (H7 : Hp), Kp K S Hd H7 → SqT K Hd t1 xs → SqT K H7 t1 xs := fun _ _ _ _ k h => k.tup h
          refine ⟨_, rfl, _, rfl, line5 (by simp), fun p1 hp1 => ?_⟩
          have sd : Same Hc (upd Hc p1 (.tup [.str wd, .int d])) := Same.add hp1
          have ed : (upd Hc p1 (.tup [.str wd, .int d])) p1 = some (.tup [.str wd, .int d]) := upd_same
          generalize upd Hc p1 (.tup [.str wd, .int d]) = Hd at sd ed ⊢
          refine ⟨_, rfl, line5 (by simp), fun p2 hp2 => ?_⟩
          have se : Same Hd (upd Hd p2 (.tup [.int 4, .int 7])) := Same.add hp2
          have ee : (upd Hd p2 (.tup [.int 4, .int 7])) p2 = some (.tup [.int 4, .int 7]) := upd_same
          generalize upd Hd p2 (.tup [.int 4, .int 7]) = He at se ee ⊢
          refine ⟨_, _, rfl, .inr (SqT.of ee), rfl, rfl, _, rfl, ?_⟩
          have kE := (kB.same sd).same se
          have ed2 := se _ _ ed
          show if inV (.int way) [.int 4, .int 7] = true then _ else _
          have hin : inV (.int way) [.int 4, .int 7] = decide (way = 4 ∨ way = 7) := by
            have e : way = 4 ∨ way = 5 ∨ way = 6 ∨ way = 7 := by omega
            rcases e with rfl | rfl | rfl | rfl <;> decide +kernel
          rw [hin]
          clear hin ee se hp2 glue
          by_cases c5 : way = 4 ∨ way = 7
          · rw [decide_eq_true c5]
            refine iteT ⟨_, rfl, line5 (by simp), fun p3 hp3 => ?_⟩
            have sf : Same He (upd He p3 (.tup [.int a])) := Same.add hp3
            have ef : (upd He p3 (.tup [.int a])) p3 = some (.tup [.int a]) := upd_same
            generalize upd He p3 (.tup [.int a]) = Hf at sf ef ⊢
            refine ⟨_, _, _, _, rfl, rfl, SqT.of (sf _ _ ed2), SqT.of ef, line5 (by simp), (fun z => by cases z), (fun _ z => by cases z), fun _ _ p4 hp4 => ?_⟩
            have sg : Same Hf (upd Hf p4 (.tup ([.str wd, .int d] ++ [.int a]))) := Same.add hp4
            have eg : (upd Hf p4 (.tup ([.str wd, .int d] ++ [.int a]))) p4 = some (.tup ([.str wd, .int d] ++ [.int a])) := upd_same
            generalize upd Hf p4 (.tup ([.str wd, .int d] ++ [.int a])) = Hg at sg eg ⊢
            have kG := (kE.same sf).same sg
            refine ⟨_, rfl, _, rfl, _, rfl, S, lo, hi, rfl, kG.st, by omega, by omega, fun n Hh n0 n1 kh => ⟨line5 (by simp), fun p5 hp5 => ?_⟩⟩
            have si : Same Hh (upd Hh p5 (.tup [.int n])) := Same.add hp5
            have ei : (upd Hh p5 (.tup [.int n])) p5 = some (.tup [.int n]) := upd_same
            generalize upd Hh p5 (.tup [.int n]) = Hi at si ei ⊢
            refine ⟨_, _, _, _, rfl, rfl, Same.tup si (kh.tup (SqT.of eg)), SqT.of ei, line5 (by simp), (fun z => by cases z), (fun _ z => by cases z), fun _ _ p6 hp6 => ?_⟩
            have kI := ((kG.trans kh).same si).add (o := .tup (([.str wd, .int d] ++ [.int a]) ++ [.int n])) hp6
            rcases hwd with ⟨w1, rfl⟩ | ⟨w1, rfl⟩ | ⟨w1, rfl⟩ | ⟨w1, rfl⟩ | ⟨w1, rfl⟩
            · exact q (.plus d a n) _ _ ⟨⟨by omega, by omega⟩, ⟨by omega, by omega⟩, by omega, by omega⟩ trivial trivial kI upd_same
            · omega
            · omega
            · exact q (.load d a n) _ _ ⟨⟨by omega, by omega⟩, ⟨by omega, by omega⟩, by omega, by omega⟩ trivial trivial kI upd_same
            · exact q (.store d a n) _ _ ⟨⟨by omega, by omega⟩, ⟨by omega, by omega⟩, by omega, by omega⟩ trivial trivial kI upd_same
          · rw [decide_eq_false c5]
            refine iteF ⟨line5 (by simp), fun p3 hp3 => ?_⟩
            have sf : Same He (upd He p3 (.tup [])) := Same.add hp3
            have ef : (upd He p3 (.tup [])) p3 = some (.tup []) := upd_same
            generalize upd He p3 (.tup []) = Hf at sf ef ⊢
            refine ⟨_, _, _, _, rfl, rfl, SqT.of (sf _ _ ed2), SqT.of ef, line5 (by simp), (fun z => by cases z), (fun _ _ => ?_), (fun _ z => absurd rfl z)⟩
            have kG := kE.same sf
            refine ⟨_, rfl, _, rfl, _, rfl, S, lo, hi, rfl, kG.st, by omega, by omega, fun n Hh n0 n1 kh => ⟨line5 (by simp), fun p5 hp5 => ?_⟩⟩
            have si : Same Hh (upd Hh p5 (.tup [.int n])) := Same.add hp5
            have ei : (upd Hh p5 (.tup [.int n])) p5 = some (.tup [.int n]) := upd_same
            generalize upd Hh p5 (.tup [.int n]) = Hi at si ei ⊢
            refine ⟨_, _, _, _, rfl, rfl, Same.tup si (kh.tup (SqT.of (sf _ _ ed2))), SqT.of ei, line5 (by simp), (fun z => by cases z), (fun _ z => by cases z), fun _ _ p6 hp6 => ?_⟩
            have kI := ((kG.trans kh).same si).add (o := .tup ([.str wd, .int d] ++ [.int n])) hp6
            rcases hwd with ⟨w1, rfl⟩ | ⟨w1, rfl⟩ | ⟨w1, rfl⟩ | ⟨w1, rfl⟩ | ⟨w1, rfl⟩
            · omega
            · exact q (.set d n) _ _ ⟨⟨by omega, by omega⟩, by omega, by omega⟩ trivial trivial kI upd_same
            · exact q (.high d n) _ _ ⟨⟨by omega, by omega⟩, by omega, by omega⟩ trivial trivial kI upd_same
            · omega
            · omega
        · rw [decide_eq_false c3]
          refine iteF ?_
          refine ⟨_, rfl, S, 3, rfl, kk.st, by decide, by decide, fun r H5 r0 r1 k5 => ⟨rfl, ?_⟩⟩
          refine ⟨_, rfl, _, rfl, _, _, rfl, rfl, S, m + 1, rfl, (kk.trans k5).st, by omega, by omega, fun g0 H6 g1 g2 k6 => ?_⟩
          have k7 := (kk.trans k5).trans k6
          refine ⟨fun σ H' => ∃ (fb : Bool) (g : Int), σ = [some (.ref S.st), some (.int p), some (.int m), some (.int way), some (.int d), some (.int a), some (.int b), none, none, none, some (.bl fb), some (.int g)] ∧ H' = H6 ∧ 0 ≤ g ∧ g ≤ m ∧ (fb = false → near g p), ?_, ?_⟩
          · refine ⟨_, rfl, _, rfl, ?_⟩
            cases hfar : decide (V.int r = V.int 0) with
            | true => exact iteF ⟨true, g0, rfl, rfl, g1, by omega, fun z => by cases z⟩
            | false =>
              refine iteT ?_
              refine ⟨_, rfl, _, rfl, _, _, rfl, rfl, _, rfl, _, _, rfl, rfl, _, rfl, _, _, rfl, _, _, rfl, _, _, rfl, _, _, rfl, ?_⟩
              have bound : ∀ t : Int, (if (if (if p - 15 < (if g0 < p + 16 then g0 else p + 16) then (if g0 < p + 16 then g0 else p + 16) else p - 15) < m then (if p - 15 < (if g0 < p + 16 then g0 else p + 16) then (if g0 < p + 16 then g0 else p + 16) else p - 15) else m) > 0 then (if (if p - 15 < (if g0 < p + 16 then g0 else p + 16) then (if g0 < p + 16 then g0 else p + 16) else p - 15) < m then (if p - 15 < (if g0 < p + 16 then g0 else p + 16) then (if g0 < p + 16 then g0 else p + 16) else p - 15) else m) else 0) = t → 0 ≤ t ∧ t ≤ m := by
                intro t ht
                repeat' split at ht
                all_goals omega
              generalize hT : (if (if (if p - 15 < (if g0 < p + 16 then g0 else p + 16) then (if g0 < p + 16 then g0 else p + 16) else p - 15) < m then (if p - 15 < (if g0 < p + 16 then g0 else p + 16) then (if g0 < p + 16 then g0 else p + 16) else p - 15) else m) > 0 then (if (if p - 15 < (if g0 < p + 16 then g0 else p + 16) then (if g0 < p + 16 then g0 else p + 16) else p - 15) < m then (if p - 15 < (if g0 < p + 16 then g0 else p + 16) then (if g0 < p + 16 then g0 else p + 16) else p - 15) else m) else 0) = t
              obtain ⟨t0, t1⟩ := bound t hT
              refine ⟨_, rfl, _, _, rfl, rfl, _, rfl, _, _, rfl, rfl, _, rfl, ?_⟩
              by_cases c6 : p - 15 ≤ t
              · rw [decide_eq_true c6]
                refine iteT ⟨_, rfl, _, _, rfl, rfl, _, _, rfl, rfl, _, rfl, ?_⟩
                refine ⟨!decide (t ≤ p + 16), t, rfl, rfl, t0, t1, fun z => ?_⟩
                have z2 : decide (t ≤ p + 16) = true := by
                  cases e : decide (t ≤ p + 16) with
                  | true => rfl
                  | false => rw [e] at z; cases z
                have z3 := of_decide_eq_true z2
                exact ⟨by omega, by omega⟩
              · rw [decide_eq_false c6]
                exact iteF ⟨_, rfl, true, t, rfl, rfl, t0, t1, fun z => by cases z⟩
          · rintro σ' H' ⟨fb, g, rfl, rfl, hg0, hg1, hn⟩
            refine ⟨_, rfl, rfl, _, rfl, ?_⟩
            by_cases c8 : way = 8
            · rw [decide_eq_true (congrArg V.int c8)]
              refine iteT ⟨rfl, fun l H7 hl s7 e7 => ⟨_, rfl, S, 7, rfl, k7.st.same s7, by decide, by decide, fun r H8 r0 r1 k8 => ?_⟩⟩
              obtain ⟨k, rfl, hk⟩ := nat_of r0 r1
              have hk : k < 7 := hk
              obtain ⟨ls, hls⟩ := k7.st.lst
              have nl : l ≠ S.st := Ne.symm (ne_of_none hls hl)
              refine ⟨_, _, _, _, rfl, rfl, k8.lst nl (SqL.of e7), at_nm hk, ?_⟩
              refine ⟨_, rfl, _, rfl, line5 (by simp), laid fun q' H9 _ s9 h9 => q (.jump k g fb) q' H9 ⟨hk, hg0, by omega⟩ ?_ hg1 (((k7.same s7).trans k8).same s9) h9⟩
              cases fb with
              | true => trivial
              | false => exact hn rfl
            · rw [decide_eq_false (fun z => c8 (V.int.inj z))]
              refine iteF ⟨_, rfl, _, rfl, line5 (by simp), laid fun q' H9 _ s9 h9 => q (.call g fb) q' H9 ⟨hg0, by omega⟩ ?_ hg1 (k7.same s9) h9⟩
              cases fb with
              | true => trivial
              | false => exact hn rfl
end
end Bm
set_option maxHeartbeats 800000
namespace Bm
open PySem PySem.Spec PyProof.Rows L2
/-! how often an item stands in a list of flat ones -/
def rCntF (K : PySem.W.Frag) : V → List V → Hp → VK → Prop := fun x xs H Q => ∃ (p : Addr) (ys : List V) (y : V), x = .ref p ∧ xs = [y] ∧ SqL K H p ys ∧ flatV y = true ∧ ys.all flatV = true ∧ Q (.int ((ys.countP fun z => eqV z y) : Nat)) H
theorem count_vals {y : V} : ∀ {ys : List V} {us : List Value}, Vals ys us → ys.all flatV = true → us.countP (eqU y) = ys.countP fun z => eqV z y
  | _, _, .nil, _ => rfl
  | z :: ys, u :: us, .cons r t, f => by
    rw [List.all_cons, Bool.and_eq_true] at f
    rw [List.countP_cons, List.countP_cons, count_vals t f.2, eqU_of r f.1]
theorem mt_countF {X : Cx} : MtR X "list.count" (rCntF X.K) := by
  intro pn s0 σ G a as va us Q J ra rs ⟨p, ys, y, ea, es, st, fy, fys, q⟩
  subst ea es
  cases ra
  obtain ⟨u, eu, ru⟩ := rs.one
  subst eu
  obtain ⟨its, rv, ⟨⟨k1, k2, k3, k4⟩, n, at_, b1, b2, b3⟩, _⟩ := J.list st
  simp only at b1 b3
  subst b1 b3
  have hmem : ∀ w ∈ its.toArray, _ := fun w hw => mem_eqAt (A := X.A.in1) (s := s0) ru fy rv fys w (by simpa using hw)
  refine call_meets PySem.F.slot_list_count ⟨_, at_, rfl⟩ PySem.F.entry_list_count
    (PySem.F.args_list_count_2 _ _) (SeqAt.list_countAt p its.toArray n k2 k4 u (eqU y)) ⟨at_, hmem, ?_⟩
  have ec : its.toArray.toList.countP (eqU y) = ys.countP fun z => eqV z y := count_vals rv fys
  refine ⟨.int ((ys.countP fun z => eqV z y) : Nat), G, J.tok _, ⟨s0.toks, ?_⟩, q⟩
  show Value.int ((its.toArray.toList.countP (eqU y) : Nat) : Int) s0.toks = Value.int ((ys.countP fun z => eqV z y : Nat) : Int) s0.toks
  rw [ec]
/-- by cases of what stands ahead -/
theorem pss_cases {X : Cx} {ss : List Stmt} {T : TS} (h : ∀ D σ H, σ.length = X.N.length → T D σ H → ∃ t, PSs X ss t ∧ t D σ H) : PSs X ss T := ⟨fun pins s σ H D I h' => let ⟨_, p, q⟩ := h D σ H I.len h'; p.run pins s σ H D I q⟩
/-- what is not come to -/
theorem ps_never {X : Cx} {st : Stmt} : PS X st (fun _ _ _ => False) := ⟨fun _ _ _ _ _ _ h => h.elim⟩
theorem len5 {α : Type} {l : List α} (h : l.length = 5) : ∃ a b c d e, l = [a, b, c, d, e] := by
  match l, h with
  | [a, b, c, d, e], _ => exact ⟨a, b, c, d, e, rfl⟩
section
variable {X : Cx}
/-- what a call of _law_kind makes of the work's reading: the word of a refusal -/
def TKind (K : PySem.W.Frag) : (XK → Hp → VK → Prop) → Hp → VK → Prop := fun tl H Q =>
  tl (fun cls d H' => ∃ x ∈ five, cls = .ref (He.ga K x) ∧ d = none ∧ ∀ H'', Same H' H'' → Q (.str x) H'') H Q
def kinds (x : Str) : List V := nine.map fun y => .bl (decide (x = y))
theorem kinds_count : ∀ x ∈ five, (kinds x).countP (fun z => eqV z (.bl true)) = 1 := by decide +kernel
theorem kinds_at : ∀ x ∈ five, ∃ j, j < 5 ∧ (kinds x)[j]? = some (.bl true) ∧ (∀ m, m < j → (kinds x)[m]? = some (.bl false)) ∧ nine[j]? = some x := by decide +kernel
abbrev N__law_kind : List Str := ["_law_work", "e", "_law_kinds", "_law_words", "_law_at"]
theorem sc__law_kind : FnScope ["_law_work", "e", "_law_kinds", "_law_words", "_law_at"] ["_law_work"] (defScope s__law_kind) := ⟨rfl, rfl, rfl, by decide +kernel, rfl, by decide +kernel, by decide +kernel⟩
theorem kind_gives {g : Addr} {cdg : Value} {q : Str} (KF : ∀ x ∈ five, Kind1 X.K x) (g_MillError : X.mg "MillError" = some (.ref (He.ga X.K "MillError"))) (g_isinstance : X.mg "isinstance" = none) (g_ValueError : X.mg "ValueError" = none)
    (g_BadDeed : X.mg "BadDeed" = some (.ref (He.ga X.K "BadDeed"))) (g_BadReach : X.mg "BadReach" = some (.ref (He.ga X.K "BadReach"))) (g_NoDeed : X.mg "NoDeed" = some (.ref (He.ga X.K "NoDeed"))) (g_BadCount : X.mg "BadCount" = some (.ref (He.ga X.K "BadCount"))) (g_NoMend : X.mg "NoMend" = some (.ref (He.ga X.K "NoMend")))
    (g_BadImage : X.mg "BadImage" = some (.ref (He.ga X.K "BadImage"))) (g_BadGiven : X.mg "BadGiven" = some (.ref (He.ga X.K "BadGiven"))) (g_BadList : X.mg "BadList" = some (.ref (He.ga X.K "BadList"))) (g_BadRow : X.mg "BadRow" = some (.ref (He.ga X.K "BadRow"))) :
    LamX.GivesTo X N__law_kind "_law_kind" (defScope s__law_kind) g cdg (defBody s__law_kind) "_law_work" q (TKind X.K) := by
  intro f c' s H Q tl act hc h
  refine ⟨_, pss_one (ps_try_as (X := (cxOf C8.CX0 X.prog X.w X.K X.mg X.base N__law_kind "_law_kind" (defScope s__law_kind) g cdg X.A X.stack s H C8.E0).nox) (i := 1) (n := "e") (c := .ref (He.ga X.K "MillError")) (Wout := fun _ _ _ _ => False)
      (tb := fun W D σ H => ∃ Ech : XK, (∀ cls d σ' H', Ech cls d H' → W cls d σ' H') ∧ σ[0]? = some (some (.ref f)) ∧ H c' = some (LamX.CodeO c' q) ∧ tl Ech H D.rt)
      (ts := fun a cls d D σ H => ∃ x ∈ five, cls = .ref (He.ga X.K x) ∧ d = none ∧ (∃ σ0 : L2.St, σ = σ0.set 1 (some (.ref a))) ∧ ∀ H'', Same H H'' → D.rt (.str x) H'')
      rfl rfl sc__law_kind.nd rfl rfl ⟨rfl, by decide, .inl g_MillError⟩ LamX.takes0 (fun W pn xe tk _ => ?_) (fun a oe cls d pn hz hf => ?_)), ?_⟩
  · refine pss_cases fun D σ H' _ h' => ?_
    rcases h' with ⟨Eout, hE, g1, g2, g3⟩
    exact ⟨_, pss_one (ps_ret (act W pn xe Eout _ _ tk hE)), g1, g2, g3⟩
  · refine pss_cases fun D' σ' H' hl h' => ?_
    obtain ⟨x, hx, rfl, rfl, ⟨σ0, rfl⟩, hq⟩ := h'
    rw [List.length_set] at hl
    obtain ⟨o0, o1, o2, o3, o4, rfl⟩ := len5 hl
    have isE := call_isE (X := (cxOf C8.CX0 X.prog X.w X.K X.mg X.base N__law_kind "_law_kind" (defScope s__law_kind) g cdg X.A X.stack s H C8.E0).nox) (a := a) (pn := pn) (KF x hx).c hz hf
    refine ⟨_, (pss_cons (ps_set (i := 2) sc__law_kind.nd rfl (Or.inl rfl) (pe_lst (pa_cons (pe_callB isE rfl g_isinstance (by decide +kernel) (pa_cons (pv 1) (pa_cons (pe_glob (v := .ref (He.ga X.K "BadDeed")) rfl g_BadDeed rfl) pa_nil))) (pa_cons (pe_callB isE rfl g_isinstance (by decide +kernel) (pa_cons (pv 1) (pa_cons (pe_glob (v := .ref (He.ga X.K "BadReach")) rfl g_BadReach rfl) pa_nil))) (pa_cons (pe_callB isE rfl g_isinstance (by decide +kernel) (pa_cons (pv 1) (pa_cons (pe_glob (v := .ref (He.ga X.K "NoDeed")) rfl g_NoDeed rfl) pa_nil))) (pa_cons (pe_callB isE rfl g_isinstance (by decide +kernel) (pa_cons (pv 1) (pa_cons (pe_glob (v := .ref (He.ga X.K "BadCount")) rfl g_BadCount rfl) pa_nil))) pa_nil))))))
      (pss_cons (ps_set (i := 2) sc__law_kind.nd rfl (Or.inl rfl) (pe_op op_cat (pv 2) (pe_lst (pa_cons (pe_callB isE rfl g_isinstance (by decide +kernel) (pa_cons (pv 1) (pa_cons (pe_glob (v := .ref (He.ga X.K "NoMend")) rfl g_NoMend rfl) pa_nil))) (pa_cons (pe_callB isE rfl g_isinstance (by decide +kernel) (pa_cons (pv 1) (pa_cons (pe_glob (v := .ref (He.ga X.K "BadImage")) rfl g_BadImage rfl) pa_nil))) (pa_cons (pe_callB isE rfl g_isinstance (by decide +kernel) (pa_cons (pv 1) (pa_cons (pe_glob (v := .ref (He.ga X.K "BadGiven")) rfl g_BadGiven rfl) pa_nil))) pa_nil))))))
      (pss_cons (ps_set (i := 2) sc__law_kind.nd rfl (Or.inl rfl) (pe_op op_cat (pv 2) (pe_lst (pa_cons (pe_callB isE rfl g_isinstance (by decide +kernel) (pa_cons (pv 1) (pa_cons (pe_glob (v := .ref (He.ga X.K "BadList")) rfl g_BadList rfl) pa_nil))) (pa_cons (pe_callB isE rfl g_isinstance (by decide +kernel) (pa_cons (pv 1) (pa_cons (pe_glob (v := .ref (He.ga X.K "BadRow")) rfl g_BadRow rfl) pa_nil))) pa_nil)))))
      (pss_cons (ps_set (i := 3) sc__law_kind.nd rfl (Or.inl rfl) (pe_lst (pa_cons pe_str (pa_cons pe_str (pa_cons pe_str (pa_cons pe_str (pa_cons pe_str (pa_cons pe_str (pa_cons pe_str (pa_cons pe_str (pa_cons pe_str pa_nil)))))))))))
      (pss_cons (ps_if (PW.pt (pw_or (pt_cmpR op_ne (pe_bm PySem.F.plainAttrs_list PySem.F.slot_list_count PySem.F.type_list_count mt_countF (pv 2) (pa_cons pe_bl pa_nil)) pe_int (nomark _)) (pw_or1 (pt_not (pt_val (pe_callB isE rfl g_isinstance (by decide +kernel) (pa_cons (pv 1) (pa_cons (pe_bltn (v := .ty "ValueError") rfl g_ValueError (by decide +kernel) rfl) pa_nil)))))))) (pss_one (ps_ret pe_str)) pss_nil)
      (pss_cons (ps_set (i := 4) sc__law_kind.nd rfl (Or.inl rfl) (pe_bm PySem.F.plainAttrs_list PySem.F.slot_list_index PySem.F.type_list_index mt_index (pv 2) (pa_cons pe_bl pa_nil)))
      (pss_cons (ps_if (pt_cmpR op_lt (pv 4) pe_int (nomark _)) (pss_one (ps_ret (pe_ix ix_list (pv 3) (pv 4) (fun _ _ => rfl)))) pss_nil)
      (pss_one ps_never)))))))), ?_⟩
    have nd : ∀ y ∈ nine, PySem.W.kitOne X.K (.ref (He.ga X.K x)) (.ref (He.ga X.K y)) = some (decide (x = y)) := (KF x hx).i
    refine ⟨_, rfl, _, _, _, rfl, fun _ r => r, (KF x hx).i "BadDeed" (by decide +kernel), _, rfl, _, _, _, rfl, fun _ r => r, (KF x hx).i "BadReach" (by decide +kernel), _, rfl, _, _, _, rfl, fun _ r => r, (KF x hx).i "NoDeed" (by decide +kernel), _, rfl, _, _, _, rfl, fun _ r => r, (KF x hx).i "BadCount" (by decide +kernel), line5 (by simp), fun p1 hp1 => ?_⟩
    have s1 : Same H' (upd H' p1 (.lst [.bl (decide (x = "BadDeed")), .bl (decide (x = "BadReach")), .bl (decide (x = "NoDeed")), .bl (decide (x = "BadCount"))])) := Same.add hp1
    have e1 : (upd H' p1 (.lst [.bl (decide (x = "BadDeed")), .bl (decide (x = "BadReach")), .bl (decide (x = "NoDeed")), .bl (decide (x = "BadCount"))])) p1 = some (.lst [.bl (decide (x = "BadDeed")), .bl (decide (x = "BadReach")), .bl (decide (x = "NoDeed")), .bl (decide (x = "BadCount"))]) := upd_same
    generalize upd H' p1 (.lst [.bl (decide (x = "BadDeed")), .bl (decide (x = "BadReach")), .bl (decide (x = "NoDeed")), .bl (decide (x = "BadCount"))]) = H1 at s1 e1 ⊢
    refine ⟨_, rfl, _, rfl, _, _, _, rfl, fun _ r => r, (KF x hx).i "NoMend" (by decide +kernel), _, rfl, _, _, _, rfl, fun _ r => r, (KF x hx).i "BadImage" (by decide +kernel), _, rfl, _, _, _, rfl, fun _ r => r, (KF x hx).i "BadGiven" (by decide +kernel), line5 (by simp), fun p2 hp2 => ?_⟩
    have s2 : Same H1 (upd H1 p2 (.lst [.bl (decide (x = "NoMend")), .bl (decide (x = "BadImage")), .bl (decide (x = "BadGiven"))])) := Same.add hp2
    have e2 : (upd H1 p2 (.lst [.bl (decide (x = "NoMend")), .bl (decide (x = "BadImage")), .bl (decide (x = "BadGiven"))])) p2 = some (.lst [.bl (decide (x = "NoMend")), .bl (decide (x = "BadImage")), .bl (decide (x = "BadGiven"))]) := upd_same
    generalize upd H1 p2 (.lst [.bl (decide (x = "NoMend")), .bl (decide (x = "BadImage")), .bl (decide (x = "BadGiven"))]) = H2 at s2 e2 ⊢
    refine ⟨_, _, _, _, rfl, rfl, s2 _ _ e1, e2, line5 (by simp), fun p3 hp3 => ?_⟩
    have s3 : Same H2 (upd H2 p3 (.lst ([.bl (decide (x = "BadDeed")), .bl (decide (x = "BadReach")), .bl (decide (x = "NoDeed")), .bl (decide (x = "BadCount"))] ++ [.bl (decide (x = "NoMend")), .bl (decide (x = "BadImage")), .bl (decide (x = "BadGiven"))]))) := Same.add hp3
    have e3 : (upd H2 p3 (.lst ([.bl (decide (x = "BadDeed")), .bl (decide (x = "BadReach")), .bl (decide (x = "NoDeed")), .bl (decide (x = "BadCount"))] ++ [.bl (decide (x = "NoMend")), .bl (decide (x = "BadImage")), .bl (decide (x = "BadGiven"))]))) p3 = some (.lst ([.bl (decide (x = "BadDeed")), .bl (decide (x = "BadReach")), .bl (decide (x = "NoDeed")), .bl (decide (x = "BadCount"))] ++ [.bl (decide (x = "NoMend")), .bl (decide (x = "BadImage")), .bl (decide (x = "BadGiven"))])) := upd_same
    generalize upd H2 p3 (.lst ([.bl (decide (x = "BadDeed")), .bl (decide (x = "BadReach")), .bl (decide (x = "NoDeed")), .bl (decide (x = "BadCount"))] ++ [.bl (decide (x = "NoMend")), .bl (decide (x = "BadImage")), .bl (decide (x = "BadGiven"))])) = H3 at s3 e3 ⊢
    refine ⟨_, rfl, _, rfl, _, _, _, rfl, fun _ r => r, (KF x hx).i "BadList" (by decide +kernel), _, rfl, _, _, _, rfl, fun _ r => r, (KF x hx).i "BadRow" (by decide +kernel), line5 (by simp), fun p4 hp4 => ?_⟩
    have s4 : Same H3 (upd H3 p4 (.lst [.bl (decide (x = "BadList")), .bl (decide (x = "BadRow"))])) := Same.add hp4
    have e4 : (upd H3 p4 (.lst [.bl (decide (x = "BadList")), .bl (decide (x = "BadRow"))])) p4 = some (.lst [.bl (decide (x = "BadList")), .bl (decide (x = "BadRow"))]) := upd_same
    generalize upd H3 p4 (.lst [.bl (decide (x = "BadList")), .bl (decide (x = "BadRow"))]) = H4 at s4 e4 ⊢
    refine ⟨_, _, _, _, rfl, rfl, s4 _ _ e3, e4, line5 (by simp), fun p5 hp5 => ?_⟩
    have s5 : Same H4 (upd H4 p5 (.lst ([.bl (decide (x = "BadDeed")), .bl (decide (x = "BadReach")), .bl (decide (x = "NoDeed")), .bl (decide (x = "BadCount"))] ++ [.bl (decide (x = "NoMend")), .bl (decide (x = "BadImage")), .bl (decide (x = "BadGiven"))] ++ [.bl (decide (x = "BadList")), .bl (decide (x = "BadRow"))]))) := Same.add hp5
    have e5 : (upd H4 p5 (.lst ([.bl (decide (x = "BadDeed")), .bl (decide (x = "BadReach")), .bl (decide (x = "NoDeed")), .bl (decide (x = "BadCount"))] ++ [.bl (decide (x = "NoMend")), .bl (decide (x = "BadImage")), .bl (decide (x = "BadGiven"))] ++ [.bl (decide (x = "BadList")), .bl (decide (x = "BadRow"))]))) p5 = some (.lst (kinds x)) := upd_same
    generalize upd H4 p5 (.lst ([.bl (decide (x = "BadDeed")), .bl (decide (x = "BadReach")), .bl (decide (x = "NoDeed")), .bl (decide (x = "BadCount"))] ++ [.bl (decide (x = "NoMend")), .bl (decide (x = "BadImage")), .bl (decide (x = "BadGiven"))] ++ [.bl (decide (x = "BadList")), .bl (decide (x = "BadRow"))])) = H5 at s5 e5 ⊢
    refine ⟨line5 (by simp), fun p6 hp6 => ?_⟩
    have s6 : Same H5 (upd H5 p6 (.lst [.str "BadDeed", .str "BadReach", .str "NoDeed", .str "BadCount", .str "NoMend", .str "BadImage", .str "BadGiven", .str "BadList", .str "BadRow"])) := Same.add hp6
    have e6 : (upd H5 p6 (.lst [.str "BadDeed", .str "BadReach", .str "NoDeed", .str "BadCount", .str "NoMend", .str "BadImage", .str "BadGiven", .str "BadList", .str "BadRow"])) p6 = some (.lst [.str "BadDeed", .str "BadReach", .str "NoDeed", .str "BadCount", .str "NoMend", .str "BadImage", .str "BadGiven", .str "BadList", .str "BadRow"]) := upd_same
    generalize upd H5 p6 (.lst [.str "BadDeed", .str "BadReach", .str "NoDeed", .str "BadCount", .str "NoMend", .str "BadImage", .str "BadGiven", .str "BadList", .str "BadRow"]) = H6 at s6 e6 ⊢
    have hk6 := SqL.of (K := X.K) (s6 _ _ e5)
    have hff : (kinds x).all flatV = true := rfl
    refine ⟨_, rfl, ?ty, p5, kinds x, .bl true, rfl, rfl, hk6, rfl, hff, ?_⟩
    case ty => exact .inl ⟨rfl, _, hk6⟩
    rw [kinds_count x hx]
    obtain ⟨j, hj5, hj, hjm, hj9⟩ := kinds_at x hx
    refine ⟨rfl, _, rfl, iteF ⟨_, rfl, _, _, _, rfl, fun _ r => r, (KF x hx).v, _, rfl, iteF ?_⟩⟩
    refine ⟨_, rfl, .inl ⟨rfl, _, hk6⟩, p5, kinds x, .bl true, j, .bl true, rfl, rfl, hk6, rfl, hff, hj, rfl, fun m z hm hz => ?_, ?_⟩
    · rw [hjm m hm] at hz
      cases hz
      rfl
    · refine ⟨_, rfl, _, _, rfl, rfl, _, rfl, ?_⟩
      rw [decide_eq_true (show (j : Int) < 5 by omega)]
      refine iteT ?_
      have h9 : (nine.map V.str)[j]? = some (.str x) := by rw [List.getElem?_map, hj9]; rfl
      refine ⟨_, rfl, _, rfl, _, _, _, _, rfl, rfl, SqL.of e6, atI_nat h9, ?_⟩
      exact hq H6 (Same.trans s1 (Same.trans s2 (Same.trans s3 (Same.trans s4 (Same.trans s5 s6)))))
  · exact ⟨fun cls d H' => ∃ x ∈ five, cls = .ref (He.ga X.K x) ∧ d = none ∧ ∀ H'', Same H' H'' → Q (.str x) H'', fun cls d σ' H' ⟨x, hx, e1, e2, hq⟩ => ⟨true, by rw [e1]; exact (KF x hx).m, fun _ a _ => ⟨x, hx, e1, e2, ⟨σ', rfl⟩, hq⟩, fun z => by cases z⟩, rfl, hc, h⟩
end
end Bm
set_option maxHeartbeats 1600000
namespace Bm
open PySem PySem.Spec PyProof.Rows L2
theorem OkV.kp {K : PySem.W.Frag} {S : Sk} {H H' : Hp} {v : V} (k : Kp K S H H') (h : OkV K H v) : OkV K H' v := by
  cases h with
  | int i => exact .int i
  | bl b => exact .bl b
  | str x => exact .str x
  | unit h => exact .unit (k.tup h)
def datV : V → PyData
  | .int i => .int i
  | .bl b => .bool b
  | .str x => .str x
  | _ => .tuple []
theorem OkV.dp {K : PySem.W.Frag} {H : Hp} {v : V} (h : OkV K H v) : Dp K H v (datV v) := by
  cases h with
  | int i => exact .int i
  | bl b => exact .bl b
  | str x => exact .str x
  | unit h => exact .tup h .nil
theorem okAll_dp {K : PySem.W.Frag} {H : Hp} : ∀ {l : List V}, (∀ x ∈ l, OkV K H x) → DpAll K H l (l.map datV)
  | [], _ => .nil
  | x :: l, h => .cons (h x (List.mem_cons_self ..)).dp (okAll_dp fun y hy => h y (List.mem_cons_of_mem _ hy))
def GdV : V → Bool
  | .str x => PyData.strOk x
  | _ => true
theorem dat_shaped : ∀ v : V, GdV v = true → (datV v).canLay0 = true ∧ (datV v).depth ≤ 1 := fun v h => by
  cases v with
  | str x => exact ⟨h, by simp [datV, PyData.depth]⟩
  | _ => simp [datV, PyData.canLay0, PyData.canLayAll0, PyData.depth, PyData.depthAll]
section
variable {P : Program} {w : World} {K : PySem.W.Frag} {mg : Str → Option Value} {base : Heap} {f : Addr} {fd : FuncData} {dvs : List V} {odd : List Str}
/-! _law_whole -/
abbrev N__law_whole : List Str := ["_law_thing", "_law_low", "_law_high"]
theorem sc__law_whole : FnScope ["_law_thing", "_law_low", "_law_high"] ["_law_thing", "_law_low", "_law_high"] (defScope s__law_whole) := ⟨rfl, rfl, rfl, by decide +kernel, rfl, by decide +kernel, by decide +kernel⟩
theorem ok_whole (F : FunD K "_law_whole" "_law_whole" (defArgs s__law_whole) (defBody s__law_whole) (defScope s__law_whole) dvs [] f fd) (g_isinstance : mg "isinstance" = none) (g_bool : mg "bool" = none) (g_int : mg "int" = none) : FnOk P w K mg base CX0 1 f fd ["_law_thing", "_law_low", "_law_high"] (spNum K) := by
  refine F.ok sc__law_whole (fun vs H Q E h => ?_) (fun cdv A outer s H vs Q E hr h => ?_)
  · obtain ⟨v, lo, hi, rfl, _⟩ := h
    rfl
  · obtain ⟨v, lo, hi, rfl, hv, q⟩ := h
    refine ⟨_, PSs.nox (pss_one (ps_ret (pe_and (pe_callB call_isi rfl g_isinstance (by decide +kernel) (pa_cons (pv 0) (pa_cons (pe_bltn (v := .ty "int") rfl g_int (by decide +kernel) rfl) pa_nil))) (pe_and (pe_not (pe_callB call_isi rfl g_isinstance (by decide +kernel) (pa_cons (pv 0) (pa_cons (pe_bltn (v := .ty "bool") rfl g_bool (by decide +kernel) rfl) pa_nil)))) (pe_one (pe_chain op_le op_le (pv 1) (pv 0) (pv 2))))))), ?_⟩
    refine ⟨_, rfl, ?_⟩
    cases hv with
    | int i =>
      refine ⟨_, _, _, _, _, rfl, .ty _, Knd.ty (.int i), kit_ty (r := true) (by decide +kernel), _, rfl, iteT ⟨_, rfl, _, _, _, _, _, rfl, .ty _, Knd.ty (.int i), kit_ty (r := false) (by decide +kernel), _, rfl, _, rfl, iteT ?_⟩⟩
      refine ⟨_, rfl, _, rfl, _, _, rfl, rfl, _, rfl, ?_⟩
      by_cases c : lo ≤ i
      · rw [decide_eq_true c]
        refine iteT ⟨_, rfl, _, _, rfl, rfl, ?_⟩
        have e : numB (.int i) lo hi = decide (i ≤ hi) := by
          show (decide (lo ≤ i) && decide (i ≤ hi)) = decide (i ≤ hi)
          rw [decide_eq_true c, Bool.true_and]
        rw [e] at q
        exact q
      · rw [decide_eq_false c]
        have e : numB (.int i) lo hi = false := by
          show (decide (lo ≤ i) && decide (i ≤ hi)) = false
          rw [decide_eq_false c, Bool.false_and]
        rw [e] at q
        exact iteF q
    | bl b => exact ⟨_, _, _, _, _, rfl, .ty _, Knd.ty (.bl b), kit_ty (r := true) (by decide +kernel), _, rfl, iteT ⟨_, rfl, _, _, _, _, _, rfl, .ty _, Knd.ty (.bl b), kit_ty (r := true) (by decide +kernel), _, rfl, _, rfl, iteF q⟩⟩
    | str x => exact ⟨_, _, _, _, _, rfl, .ty _, Knd.ty (.str x), kit_ty (r := false) (by decide +kernel), _, rfl, iteF q⟩
    | unit h => exact ⟨_, _, _, _, _, rfl, .ty _, Knd.ty (.tup h), kit_ty (r := false) (by decide +kernel), _, rfl, iteF q⟩
theorem dat_all : ∀ l : List V, (∀ x ∈ l, GdV x = true) → PyData.canLayAll0 (l.map datV) = true ∧ PyData.depthAll (l.map datV) ≤ 1
  | [], _ => by simp [PyData.canLayAll0, PyData.depthAll]
  | x :: l, h => by
    obtain ⟨h1, h2⟩ := dat_all l fun y hy => h y (List.mem_cons_of_mem _ hy)
    obtain ⟨h3, h4⟩ := dat_shaped x (h x (List.mem_cons_self ..))
    simp only [List.map_cons, PyData.canLayAll0, PyData.depthAll, h1, h3]
    exact ⟨rfl, Nat.max_le.mpr ⟨h4, h2⟩⟩
theorem tup_shaped {l : List V} (h : ∀ x ∈ l, GdV x = true) : SeqAt.shaped (.tuple (l.map datV)) = true := by
  obtain ⟨h1, h2⟩ := dat_all l h
  unfold SeqAt.shaped
  simp only [PyData.canLay0, PyData.depth, h1, Bool.true_and]
  exact decide_eq_true (by omega)
theorem eqv_nil (l : List V) : PyData.eqv (.tuple (l.map datV)) (.tuple []) = decide (l = []) := by
  cases l <;> simp [PyData.eqv, PyData.eqvAll]
theorem cut_upto {xs : List V} {k : Nat} (h : k ≤ xs.length) : cutV xs none (some (k : Int)) = xs.take k := by
  unfold cutV
  rw [HT.sIx_nat, HT.sIx_none, Nat.min_eq_left h]
  rfl
theorem cut_from {xs : List V} {k : Nat} (h : k ≤ xs.length) : cutV xs (some (k : Int)) none = xs.drop k := by
  unfold cutV
  rw [HT.sIx_nat, HT.sIx_none, Nat.min_eq_left h]
  refine List.take_of_length_le ?_
  rw [List.length_drop]
  exact Nat.le_refl _
theorem cut_last {xs : List V} : cutV xs none (some (-1)) = xs.take (xs.length - 1) := by
  have e : HT.sIx xs.length xs.length (some (-1)) = xs.length - 1 := by
    show ((-1 : Int) + (xs.length : Int)).toNat = _
    omega
  unfold cutV
  rw [e]
  rfl
/-! _law_other -/
def oddL : List Str := ["Add", "", "none", "0", "zero", "always", "Zero"]
structure OkL (K : PySem.W.Frag) (H : Hp) (xs : List V) : Prop where
  ok : ∀ x ∈ xs, OkV K H x
  gd : ∀ x ∈ xs, GdV x = true
  nm : ∀ z r, xs = .str z :: r → (∃ ks, (z, ks) ∈ PT) ∨ z ∈ oddL
theorem OkL.same {K : PySem.W.Frag} {H H' : Hp} {xs : List V} (e : Same H H') (h : OkL K H xs) : OkL K H' xs := ⟨fun x hx => (h.ok x hx).same e, h.gd, h.nm⟩
theorem OkL.kp {K : PySem.W.Frag} {S : Sk} {H H' : Hp} {xs : List V} (k : Kp K S H H') (h : OkL K H xs) : OkL K H' xs := ⟨fun x hx => (h.ok x hx).kp k, h.gd, h.nm⟩
def wordsN : List Str := SG ++ SM ++ (["plus", "set", "high", "load", "store", "jump", "call", "Add", "", "none"] : List Str)
theorem words_ok : ∀ z ∈ wordsN, PyData.strOk z = true ∧ ((PT.lookup z).isSome = true ∨ z ∈ oddL) := by decide +kernel
def someL (u : Addr) : List V := [.int (0 - 1), .int 7, .int 8, .int 31, .int 32, .int 63, .int 64, .int 127, .int 128, .int 511, .int 512, .int 65535, .int 65536, .int (10 ^ (20 : Int).toNat), .int (0 - 32), .int (0 - 33), .str "0", .str "zero", .str "always", .str "Zero", .bl true, .bl false, .ref u, .int 0]
theorem some_ok {K : PySem.W.Frag} {H : Hp} {u : Addr} (h : SqT K H u []) {x : V} (hx : x ∈ someL u) : OkV K H x ∧ GdV x = true ∧ ∀ z, x = .str z → z ∈ oddL := by
  simp only [someL, List.mem_cons, List.not_mem_nil, or_false] at hx
  rcases hx with e | e | e | e | e | e | e | e | e | e | e | e | e | e | e | e | e | e | e | e | e | e | e | e <;> rw [e] <;>
    first | exact ⟨.int _, rfl, fun z e => by cases e⟩ | exact ⟨.bl _, rfl, fun z e => by cases e⟩ | exact ⟨.unit h, rfl, fun z e => by cases e⟩ | exact ⟨.str _, by decide +kernel, fun z e => by rw [← V.str.inj e]; decide +kernel⟩
theorem at_some {u : Addr} {r : Int} (h0 : 0 ≤ r) (h1 : r < 24) : ∃ x ∈ someL u, atI (someL u) r = some x := by
  obtain ⟨k, rfl, hk⟩ := nat_of h0 h1
  have hr : k < (someL u).length := hk
  exact ⟨(someL u)[k], List.getElem_mem hr, atI_nat (List.getElem?_eq_getElem hr)⟩
theorem at_word {r : Int} (h0 : 0 ≤ r) (h1 : r < 23) : ∃ z ∈ wordsN, atI (wordsN.map V.str) r = some (.str z) := by
  obtain ⟨k, rfl, hk⟩ := nat_of h0 h1
  have hr : k < wordsN.length := Nat.lt_of_lt_of_le hk (by decide)
  refine ⟨wordsN[k], List.getElem_mem hr, atI_nat ?_⟩
  rw [List.getElem?_map, List.getElem?_eq_getElem hr]
  rfl
theorem okL_of {K : PySem.W.Frag} {H : Hp} {xs : List V} (h1 : ∀ x ∈ xs, OkV K H x) (h2 : ∀ x ∈ xs, GdV x = true) (h3 : ∀ z, xs.head? = some (.str z) → (∃ ks, (z, ks) ∈ PT) ∨ z ∈ oddL) : OkL K H xs :=
  ⟨h1, h2, fun z r e => h3 z (by rw [e]; rfl)⟩
theorem OkL.hd {K : PySem.W.Frag} {H : Hp} {xs : List V} (h : OkL K H xs) : ∀ z, xs.head? = some (.str z) → (∃ ks, (z, ks) ∈ PT) ∨ z ∈ oddL := fun z e => by
  cases xs with
  | nil => cases e
  | cons x r => exact h.nm z r (by rw [Option.some.inj e])
theorem OkL.app {K : PySem.W.Frag} {H : Hp} {xs : List V} {x : V} (h : OkL K H xs) (hx : OkV K H x ∧ GdV x = true ∧ ∀ z, x = .str z → z ∈ oddL) : OkL K H (xs ++ [x]) := by
  refine okL_of (fun y hy => ?_) (fun y hy => ?_) fun z e => ?_
  · rcases List.mem_append.mp hy with hy | hy
    · exact h.ok y hy
    · rw [List.mem_singleton.mp hy]; exact hx.1
  · rcases List.mem_append.mp hy with hy | hy
    · exact h.gd y hy
    · rw [List.mem_singleton.mp hy]; exact hx.2.1
  · cases xs with
    | nil => exact .inr (hx.2.2 z (Option.some.inj e))
    | cons y r => exact h.hd z e
theorem OkL.upto {K : PySem.W.Frag} {H : Hp} {xs : List V} (n : Nat) (h : OkL K H xs) : OkL K H (xs.take n) := by
  refine okL_of (fun y hy => h.ok y (List.mem_of_mem_take hy)) (fun y hy => h.gd y (List.mem_of_mem_take hy)) fun z e => ?_
  cases xs with
  | nil => simp at e
  | cons y r =>
    cases n with
    | zero => simp at e
    | succ n => exact h.hd z e
theorem OkL.head {K : PySem.W.Frag} {H : Hp} {y : V} {r : List V} {z : Str} (h : OkL K H (y :: r)) (hz : z ∈ wordsN) : OkL K H (.str z :: r) := by
  obtain ⟨h1, h2⟩ := words_ok z hz
  refine okL_of (fun x hx => ?_) (fun x hx => ?_) fun z' e => ?_
  · rcases List.mem_cons.mp hx with e | hx
    · rw [e]; exact .str z
    · exact h.ok x (List.mem_cons_of_mem _ hx)
  · rcases List.mem_cons.mp hx with e | hx
    · rw [e]; exact h1
    · exact h.gd x (List.mem_cons_of_mem _ hx)
  · have e2 : z = z' := V.str.inj (Option.some.inj e)
    rw [← e2]
    rcases h2 with h2 | h2
    · obtain ⟨ks, hk⟩ := Option.isSome_iff_exists.mp h2
      exact .inl ⟨ks, mem_look hk⟩
    · exact .inr h2
theorem OkL.mid {K : PySem.W.Frag} {H : Hp} {xs : List V} {x : V} {k : Nat} (h : OkL K H xs) (hx : OkV K H x ∧ GdV x = true ∧ ∀ z, x = .str z → z ∈ oddL) (k0 : 0 < k) (k1 : k < xs.length) : OkL K H (xs.take k ++ [x] ++ xs.drop (k + 1)) := by
  refine okL_of (fun y hy => ?_) (fun y hy => ?_) fun z e => ?_
  · rcases List.mem_append.mp hy with hy | hy
    · rcases List.mem_append.mp hy with hy | hy
      · exact h.ok y (List.mem_of_mem_take hy)
      · rw [List.mem_singleton.mp hy]; exact hx.1
    · exact h.ok y (List.mem_of_mem_drop hy)
  · rcases List.mem_append.mp hy with hy | hy
    · rcases List.mem_append.mp hy with hy | hy
      · exact h.gd y (List.mem_of_mem_take hy)
      · rw [List.mem_singleton.mp hy]; exact hx.2.1
    · exact h.gd y (List.mem_of_mem_drop hy)
  · cases xs with
    | nil => cases k1
    | cons y r =>
      cases k with
      | zero => cases k0
      | succ k => exact h.hd z e
theorem not_whole_last {xs : List V} (h : xs ≠ []) : ¬ (HT.sIx xs.length 0 none = 0 ∧ HT.sIx xs.length xs.length (some (-1)) = xs.length) := by
  have e : HT.sIx xs.length xs.length (some (-1)) = xs.length - 1 := by
    show ((-1 : Int) + (xs.length : Int)).toNat = _
    omega
  have := List.length_pos_iff.mpr h
  intro z
  rw [e] at z
  omega
theorem not_whole_upto {xs : List V} {k : Nat} (h : k < xs.length) : ¬ (HT.sIx xs.length 0 none = 0 ∧ HT.sIx xs.length xs.length (some (k : Int)) = xs.length) := by
  intro z
  rw [HT.sIx_nat] at z
  omega
theorem not_whole_from {xs : List V} {k : Nat} (h : k < xs.length) : ¬ (HT.sIx xs.length 0 (some ((k + 1 : Nat) : Int)) = 0 ∧ HT.sIx xs.length xs.length none = xs.length) := by
  intro z
  rw [HT.sIx_nat] at z
  omega
def spOther (K : PySem.W.Frag) : Sp := fun vs H Q _ => ∃ (S : Sk) (a : Addr) (xs : List V), vs = [.ref S.st, .ref a] ∧ St K H S ∧ SqT K H a xs ∧ OkL K H xs ∧ xs.length ≤ 100 ∧
  ∀ b ys H', Kp K S H H' → SqT K H' b ys → OkL K H' ys → ys.length ≤ xs.length + 1 → Q (.ref b) H'
abbrev N__law_other : List Str := ["_law_state", "_law_deed_here", "_law_words", "_law_some", "_law_k", "_law_way"]
theorem sc__law_other : FnScope ["_law_state", "_law_deed_here", "_law_words", "_law_some", "_law_k", "_law_way"] ["_law_state", "_law_deed_here"] (defScope s__law_other) := ⟨rfl, rfl, rfl, by decide +kernel, rfl, by decide +kernel, by decide +kernel⟩
theorem ok_other (F : FunD K "_law_other" "_law_other" (defArgs s__law_other) (defBody s__law_other) (defScope s__law_other) dvs [] f fd) (k__law_drawn : KnDr P w K mg base) (k__law_plain : KnNm P w K mg base "_law_plain" SG) (k__law_pairs : KnNm P w K mg base "_law_pairs" SM) (g_len : mg "len" = none) :
    FnOk P w K mg base CX0 2 f fd ["_law_state", "_law_deed_here"] (spOther K) := by
  refine F.ok sc__law_other (fun vs H Q E h => ?_) (fun cdv A outer s H vs Q E hr h => ?_)
  · obtain ⟨S, a, xs, rfl, _⟩ := h
    rfl
  · obtain ⟨S, a, xs, rfl, hst, hS, hx, h100, q⟩ := h
    refine ⟨_, PSs.nox (pss_cons (ps_set (i := 2) sc__law_other.nd rfl (Or.inl rfl) (pe_op op_cat (pe_op op_cat (pk0 k__law_plain hr (by decide) rfl pass0) (pk0 k__law_pairs hr (by decide) rfl pass0)) (pe_lst (pa_cons pe_str (pa_cons pe_str (pa_cons pe_str (pa_cons pe_str (pa_cons pe_str (pa_cons pe_str (pa_cons pe_str (pa_cons pe_str (pa_cons pe_str (pa_cons pe_str pa_nil)))))))))))))
      (pss_cons (ps_set (i := 3) sc__law_other.nd rfl (Or.inl rfl) (pe_lst (pa_cons (pe_op op_sub pe_int pe_int) (pa_cons pe_int (pa_cons pe_int (pa_cons pe_int (pa_cons pe_int (pa_cons pe_int (pa_cons pe_int (pa_cons pe_int (pa_cons pe_int (pa_cons pe_int (pa_cons pe_int (pa_cons pe_int (pa_cons pe_int (pa_cons (pe_op op_pow pe_int pe_int) (pa_cons (pe_op op_sub pe_int pe_int) (pa_cons (pe_op op_sub pe_int pe_int) (pa_cons pe_str (pa_cons pe_str pa_nil))))))))))))))))))))
      (pss_cons (ps_set (i := 3) sc__law_other.nd rfl (Or.inl rfl) (pe_op op_cat (pv 3) (pe_lst (pa_cons pe_str (pa_cons pe_str (pa_cons pe_bl (pa_cons pe_bl (pa_cons (pe_tup pa_nil) (pa_cons pe_int pa_nil)))))))))
      (pss_cons (ps_set (i := 4) sc__law_other.nd rfl (Or.inl rfl) (pk k__law_drawn hr (by decide) rfl pass0 (pa_cons (pv 0) (pa_cons (pe_op op_add (pe_callB call_len rfl g_len boot_len (pa_cons (pv 1) pa_nil)) pe_int) pa_nil))))
      (pss_cons (ps_set (i := 5) sc__law_other.nd rfl (Or.inl rfl) (pk k__law_drawn hr (by decide) rfl pass0 (pa_cons (pv 0) (pa_cons pe_int pa_nil))))
      (pss_cons (ps_if (PW.pt (pw_or (pt_cmpR (op_eqD hr.units) (pv 1) (pe_tup pa_nil) (nomark _)) (pw_or1 (pt_cmpR op_eq (pv 5) pe_int (nomark _))))) (pss_one (ps_ret (pe_op op_catA (pv 1) (pe_tup (pa_cons (pe_ix ix_list (pv 3) (pk k__law_drawn hr (by decide) rfl pass0 (pa_cons (pv 0) (pa_cons pe_int pa_nil))) (fun _ _ => rfl)) pa_nil))))) pss_nil)
      (pss_cons (ps_if (PW.pt (pw_or (pt_cmpR op_eq (pv 5) pe_int (nomark _)) (pw_or1 (pt_cmpR op_eq (pv 4) (pe_callB call_len rfl g_len boot_len (pa_cons (pv 1) pa_nil)) (nomark _))))) (pss_one (ps_ret (pe_slice sl_tupA (pv 1) po_none (po_some (pe_un un_neg pe_int))))) pss_nil)
      (pss_cons (ps_if (pt_cmpR op_eq (pv 4) pe_int (nomark _)) (pss_one (ps_ret (pe_op op_catA (pe_tup (pa_cons (pe_ix ix_list (pv 2) (pk k__law_drawn hr (by decide) rfl pass0 (pa_cons (pv 0) (pa_cons pe_int pa_nil))) (fun _ _ => rfl)) pa_nil)) (pe_slice sl_tupA (pv 1) (po_some pe_int) po_none)))) pss_nil)
      (pss_one (ps_ret (pe_op op_catA (pe_op op_catA (pe_slice sl_tupA (pv 1) po_none (po_some (pv 4))) (pe_tup (pa_cons (pe_ix ix_list (pv 3) (pk k__law_drawn hr (by decide) rfl pass0 (pa_cons (pv 0) (pa_cons pe_int pa_nil))) (fun _ _ => rfl)) pa_nil))) (pe_slice sl_tupA (pv 1) (po_some (pe_op op_add (pv 4) pe_int)) po_none)))))))))))), ?_⟩
    have wl : wordsN.map V.str = SG.map V.str ++ SM.map V.str ++ [.str "plus", .str "set", .str "high", .str "load", .str "store", .str "jump", .str "call", .str "Add", .str "", .str "none"] := rfl
    refine ⟨rfl, fun p1 H1 hp1 s1 e1 => ⟨rfl, fun p2 H2 hp2 s2 e2 => ⟨_, _, _, _, rfl, rfl, s2 _ _ e1, e2, line5 (by decide), fun p3 hp3 => ?_⟩⟩⟩
    have s3 : Same H2 (upd H2 p3 (.lst (SG.map V.str ++ SM.map V.str))) := Same.add hp3
    have e3 : (upd H2 p3 (.lst (SG.map V.str ++ SM.map V.str))) p3 = some (.lst (SG.map V.str ++ SM.map V.str)) := upd_same
    generalize upd H2 p3 (.lst (SG.map V.str ++ SM.map V.str)) = H3 at s3 e3 ⊢
    refine ⟨line5 (by simp), fun p4 hp4 => ?_⟩
    have s4 : Same H3 (upd H3 p4 (.lst [.str "plus", .str "set", .str "high", .str "load", .str "store", .str "jump", .str "call", .str "Add", .str "", .str "none"])) := Same.add hp4
    have e4 : (upd H3 p4 (.lst [.str "plus", .str "set", .str "high", .str "load", .str "store", .str "jump", .str "call", .str "Add", .str "", .str "none"])) p4 = some (.lst [.str "plus", .str "set", .str "high", .str "load", .str "store", .str "jump", .str "call", .str "Add", .str "", .str "none"]) := upd_same
    generalize upd H3 p4 (.lst [.str "plus", .str "set", .str "high", .str "load", .str "store", .str "jump", .str "call", .str "Add", .str "", .str "none"]) = H4 at s4 e4 ⊢
    refine ⟨_, _, _, _, rfl, rfl, s4 _ _ e3, e4, line5 (by decide), fun p5 hp5 => ?_⟩
    rw [← wl]
    have s5 : Same H4 (upd H4 p5 (.lst (wordsN.map V.str))) := Same.add hp5
    have e5 : (upd H4 p5 (.lst (wordsN.map V.str))) p5 = some (.lst (wordsN.map V.str)) := upd_same
    generalize upd H4 p5 (.lst (wordsN.map V.str)) = H5 at s5 e5 ⊢
    refine ⟨_, _, rfl, rfl, _, _, rfl, rfl, ⟨by decide, by decide, by decide⟩, _, _, rfl, rfl, _, _, rfl, rfl, line5 (by simp), fun p6 hp6 => ?_⟩
    have s6 : Same H5 (upd H5 p6 (.lst [.int (0 - 1), .int 7, .int 8, .int 31, .int 32, .int 63, .int 64, .int 127, .int 128, .int 511, .int 512, .int 65535, .int 65536, .int (10 ^ (20 : Int).toNat), .int (0 - 32), .int (0 - 33), .str "0", .str "zero"])) := Same.add hp6
    have e6 : (upd H5 p6 (.lst [.int (0 - 1), .int 7, .int 8, .int 31, .int 32, .int 63, .int 64, .int 127, .int 128, .int 511, .int 512, .int 65535, .int 65536, .int (10 ^ (20 : Int).toNat), .int (0 - 32), .int (0 - 33), .str "0", .str "zero"])) p6 = some (.lst [.int (0 - 1), .int 7, .int 8, .int 31, .int 32, .int 63, .int 64, .int 127, .int 128, .int 511, .int 512, .int 65535, .int 65536, .int (10 ^ (20 : Int).toNat), .int (0 - 32), .int (0 - 33), .str "0", .str "zero"]) := upd_same
    generalize upd H5 p6 (.lst [.int (0 - 1), .int 7, .int 8, .int 31, .int 32, .int 63, .int 64, .int 127, .int 128, .int 511, .int 512, .int 65535, .int 65536, .int (10 ^ (20 : Int).toNat), .int (0 - 32), .int (0 - 33), .str "0", .str "zero"]) = H6 at s6 e6 ⊢
    refine ⟨_, rfl, line5 (by simp), fun pu hpu => ?_⟩
    have s7 : Same H6 (upd H6 pu (.tup [])) := Same.add hpu
    have eu : (upd H6 pu (.tup [])) pu = some (.tup []) := upd_same
    generalize upd H6 pu (.tup []) = H7 at s7 eu ⊢
    refine ⟨line5 (by simp), fun p8 hp8 => ?_⟩
    have s8 : Same H7 (upd H7 p8 (.lst [.str "always", .str "Zero", .bl true, .bl false, .ref pu, .int 0])) := Same.add hp8
    have e8 : (upd H7 p8 (.lst [.str "always", .str "Zero", .bl true, .bl false, .ref pu, .int 0])) p8 = some (.lst [.str "always", .str "Zero", .bl true, .bl false, .ref pu, .int 0]) := upd_same
    generalize upd H7 p8 (.lst [.str "always", .str "Zero", .bl true, .bl false, .ref pu, .int 0]) = H8 at s8 e8 ⊢
    refine ⟨_, _, _, _, rfl, rfl, s8 _ _ (s7 _ _ e6), e8, line5 (by simp), fun p9 hp9 => ?_⟩
    have sl : [.int (0 - 1), .int 7, .int 8, .int 31, .int 32, .int 63, .int 64, .int 127, .int 128, .int 511, .int 512, .int 65535, .int 65536, .int (10 ^ (20 : Int).toNat), .int (0 - 32), .int (0 - 33), .str "0", .str "zero"] ++ [.str "always", .str "Zero", .bl true, .bl false, .ref pu, .int 0] = someL pu := rfl
    rw [sl]
    have s9 : Same H8 (upd H8 p9 (.lst (someL pu))) := Same.add hp9
    have e9 : (upd H8 p9 (.lst (someL pu))) p9 = some (.lst (someL pu)) := upd_same
    generalize upd H8 p9 (.lst (someL pu)) = H9 at s9 e9 ⊢
    have s79 := Same.trans s7 (Same.trans s8 s9)
    have s09 : Same H H9 := Same.trans s1 (Same.trans s2 (Same.trans s3 (Same.trans s4 (Same.trans s5 (Same.trans s6 s79)))))
    have e5' := s79 _ _ (s6 _ _ e5)
    have eu' := s9 _ _ (s8 _ _ eu)
    have k9 := Kp.of hst s09
    have n5 : p5 ≠ S.st := fun z => by
      obtain ⟨l, hl⟩ := hst.lst
      have := (Same.trans s1 (Same.trans s2 (Same.trans s3 s4))) _ _ hl
      rw [← z, hp5] at this
      cases this
    have n9 : p9 ≠ S.st := fun z => by
      obtain ⟨l, hl⟩ := hst.lst
      have := (Same.trans s1 (Same.trans s2 (Same.trans s3 (Same.trans s4 (Same.trans s5 (Same.trans s6 (Same.trans s7 s8))))))) _ _ hl
      rw [← z, hp9] at this
      cases this
    refine ⟨_, rfl, _, rfl, _, _, rfl, .inr ⟨_, Same.tup s09 hS, rfl⟩, _, _, rfl, rfl, S, ((xs.length : Int) + 1), rfl, k9.st, by omega, by omega, fun k Ha k0 k1 ka => ?_⟩
    refine ⟨_, rfl, S, 5, rfl, ka.st, by decide, by decide, fun way Hb w0 w1 kb => ?_⟩
    have kab := ka.trans kb
    have kH := k9.trans kab
    have hSb := kH.tup hS
    have l5 := kab.lst n5 (SqL.of e5')
    have l9 := kab.lst n9 (SqL.of e9)
    have hu := kab.tup (SqT.of eu')
    refine ⟨_, rfl, line5 (by simp), fun pe hpe => ?_⟩
    have sc : Same Hb (upd Hb pe (.tup [])) := Same.add hpe
    have ec : (upd Hb pe (.tup [])) pe = some (.tup []) := upd_same
    generalize upd Hb pe (.tup []) = Hc at sc ec ⊢
    have kc : Kp K S H Hc := kH.same sc
    have hSc := Same.tup sc hSb
    have l9c : SqL K Hc p9 (someL pu) := sc.seq l9
    have l5c : SqL K Hc p5 (wordsN.map V.str) := sc.seq l5
    have huc := Same.tup sc hu
    refine ⟨_, _, .tup hSc (okAll_dp (hx.kp kc).ok), .tup (SqT.of ec) .nil, tup_shaped hx.gd, by decide +kernel, _, rfl, ?_⟩
    rw [eqv_nil]
    by_cases h0 : xs = []
    · rw [decide_eq_true h0]
      refine iteT ?_
      refine ⟨_, rfl, _, rfl, _, rfl, S, 24, rfl, kc.st, by decide, by decide, fun r Hd r0 r1 kd => ?_⟩
      obtain ⟨x, hxm, hxa⟩ := at_some (u := pu) r0 r1
      refine ⟨_, _, _, _, rfl, rfl, kd.lst n9 (l9c), hxa, line5 (by simp), fun pt hpt => ?_⟩
      have se : Same Hd (upd Hd pt (.tup [x])) := Same.add hpt
      have et : (upd Hd pt (.tup [x])) pt = some (.tup [x]) := upd_same
      generalize upd Hd pt (.tup [x]) = He at se et ⊢
      have ke : Kp K S H He := (kc.trans kd).same se
      have hxe := some_ok (Same.tup se (kd.tup huc)) hxm
      have hSe := ke.tup hS
      have hxs := hx.kp ke
      refine ⟨_, _, xs, [x], rfl, rfl, hSe, SqT.of et, line5 (by simp; omega), fun _ => ?_, fun z => absurd h0 z, fun z => absurd h0 z⟩
      refine q pt [x] He ke (SqT.of et) ?_ (by simp)
      have := hxs.app hxe
      rw [h0] at this
      exact this
    · rw [decide_eq_false h0]
      refine iteF ⟨_, rfl, rfl, _, rfl, ?_⟩
      by_cases hw : way = 0
      · rw [decide_eq_true (congrArg V.int hw)]
        refine iteT ?_
        refine ⟨_, rfl, _, rfl, _, rfl, S, 24, rfl, kc.st, by decide, by decide, fun r Hd r0 r1 kd => ?_⟩
        obtain ⟨x, hxm, hxa⟩ := at_some (u := pu) r0 r1
        refine ⟨_, _, _, _, rfl, rfl, kd.lst n9 (l9c), hxa, line5 (by simp), fun pt hpt => ?_⟩
        have se : Same Hd (upd Hd pt (.tup [x])) := Same.add hpt
        have et : (upd Hd pt (.tup [x])) pt = some (.tup [x]) := upd_same
        generalize upd Hd pt (.tup [x]) = He at se et ⊢
        have ke : Kp K S H He := (kc.trans kd).same se
        have hxe := some_ok (Same.tup se (kd.tup huc)) hxm
        have hSe := ke.tup hS
        have hxs := hx.kp ke
        refine ⟨_, _, xs, [x], rfl, rfl, hSe, SqT.of et, line5 (by simp; omega), fun z => absurd z h0, (fun _ z => by cases z), fun _ _ pq hpq => ?_⟩
        exact q pq (xs ++ [x]) _ (ke.add hpq) (SqT.of upd_same) ((hxs.app hxe).same (Same.add hpq)) (by simp)
      · rw [decide_eq_false (fun z => hw (V.int.inj z))]
        refine iteF ?_
        have hlen := List.length_pos_iff.mpr h0
        have last : ∀ pq, Hc pq = none → Q (.ref pq) (upd Hc pq (.tup (cutV xs none (some (-1))))) := fun pq hpq => by
          rw [cut_last]
          exact q pq _ _ (kc.add hpq) (SqT.of upd_same) (((hx.kp kc).upto _).same (Same.add hpq)) (by rw [List.length_take]; omega)
        refine ⟨_, rfl, rfl, _, rfl, ?_⟩
        by_cases hw1 : way = 1
        · rw [decide_eq_true (congrArg V.int hw1)]
          refine iteT ?_
          exact ⟨_, rfl, _, rfl, _, rfl, _, _, rfl, hSc, fun z => absurd z (not_whole_last h0), fun _ pq hpq => last pq hpq⟩
        · rw [decide_eq_false (fun z => hw1 (V.int.inj z))]
          refine iteF ⟨_, rfl, _, rfl, _, _, rfl, .inr ⟨_, hSc, rfl⟩, rfl, _, rfl, ?_⟩
          by_cases hk : k = (xs.length : Int)
          · rw [decide_eq_true (congrArg V.int hk)]
            refine iteT ?_
            exact ⟨_, rfl, _, rfl, _, rfl, _, _, rfl, hSc, fun z => absurd z (not_whole_last h0), fun _ pq hpq => last pq hpq⟩
          · rw [decide_eq_false (fun z => hk (V.int.inj z))]
            refine iteF ⟨_, rfl, rfl, _, rfl, ?_⟩
            by_cases hk0 : k = 0
            · rw [decide_eq_true (congrArg V.int hk0)]
              refine iteT ⟨_, rfl, _, rfl, S, 23, rfl, kc.st, by decide, by decide, fun r Hd r0 r1 kd => ?_⟩
              obtain ⟨z, hzm, hza⟩ := at_word r0 r1
              refine ⟨_, _, _, _, rfl, rfl, kd.lst n5 l5c, hza, line5 (by simp), fun pt hpt => ?_⟩
              have se : Same Hd (upd Hd pt (.tup [.str z])) := Same.add hpt
              have et : (upd Hd pt (.tup [.str z])) pt = some (.tup [.str z]) := upd_same
              generalize upd Hd pt (.tup [.str z]) = He at se et ⊢
              have ke : Kp K S H He := (kc.trans kd).same se
              obtain ⟨y, rr, rfl⟩ := List.exists_cons_of_ne_nil h0
              refine ⟨_, rfl, _, rfl, _, _, rfl, ke.tup hS, fun z => absurd z (not_whole_tail _ _), fun _ ps hps => ?_⟩
              have sf : Same He (upd He ps (.tup (cutV (y :: rr) (some 1) none))) := Same.add hps
              have ef : (upd He ps (.tup (cutV (y :: rr) (some 1) none))) ps = some (.tup (cutV (y :: rr) (some 1) none)) := upd_same
              generalize upd He ps (.tup (cutV (y :: rr) (some 1) none)) = Hf at sf ef ⊢
              rw [cut_tail] at ef
              have kf := ke.same sf
              have hfin : OkL K Hf (.str z :: rr) := (hx.kp kf).head hzm
              refine ⟨_, _, [.str z], rr, rfl, rfl, SqT.of (sf _ _ et), SqT.of ef, line5 (by simp at h100 ⊢; omega), fun z => (by cases z), fun _ e => ?_, fun _ _ pq hpq => ?_⟩
              · subst e
                exact q pt _ Hf kf (SqT.of (sf _ _ et)) hfin (by simp)
              · exact q pq (.str z :: rr) _ (kf.add hpq) (SqT.of upd_same) (hfin.same (Same.add hpq)) (by simp)
            · rw [decide_eq_false (fun z => hk0 (V.int.inj z))]
              refine iteF ?_
              have ek : k = ((k.toNat : Nat) : Int) := by omega
              generalize k.toNat = kn at ek
              subst ek
              have k3 : kn < xs.length := by omega
              have k4 : 0 < kn := by omega
              have ec1 := cut_upto (Nat.le_of_lt k3)
              have ec2 := cut_from (xs := xs) (k := kn + 1) k3
              refine ⟨_, rfl, _, rfl, _, rfl, _, _, rfl, hSc, fun z => absurd z (not_whole_upto k3), fun _ p1' hp1' => ?_⟩
              have sd : Same Hc (upd Hc p1' (.tup (cutV xs none (some (kn : Int))))) := Same.add hp1'
              have ed : (upd Hc p1' (.tup (cutV xs none (some (kn : Int))))) p1' = some (.tup (cutV xs none (some (kn : Int)))) := upd_same
              generalize upd Hc p1' (.tup (cutV xs none (some (kn : Int)))) = Hd at sd ed ⊢
              rw [ec1] at ed
              have kd' : Kp K S H Hd := kc.same sd
              refine ⟨_, rfl, _, rfl, S, 24, rfl, kd'.st, by decide, by decide, fun r He r0 r1 ke' => ?_⟩
              obtain ⟨x, hxm, hxa⟩ := at_some (u := pu) r0 r1
              have l9d : SqL K Hd p9 (someL pu) := sd.seq l9c
              refine ⟨_, _, _, _, rfl, rfl, ke'.lst n9 l9d, hxa, line5 (by simp), fun pt hpt => ?_⟩
              have sf : Same He (upd He pt (.tup [x])) := Same.add hpt
              have ef : (upd He pt (.tup [x])) pt = some (.tup [x]) := upd_same
              generalize upd He pt (.tup [x]) = Hf at sf ef ⊢
              have kf : Kp K S H Hf := (kd'.trans ke').same sf
              have hxf := some_ok (Same.tup sf (ke'.tup (Same.tup sd huc))) hxm
              have edf := Same.tup sf (ke'.tup (SqT.of ed))
              have nt : xs.take kn ≠ [] := fun z => by
                have := congrArg List.length z
                rw [List.length_take, List.length_nil] at this
                omega
              refine ⟨_, _, xs.take kn, [x], rfl, rfl, edf, SqT.of ef, line5 (by simp; omega), fun z => absurd z nt, (fun _ z => by cases z), fun _ _ p2' hp2' => ?_⟩
              have sg : Same Hf (upd Hf p2' (.tup (xs.take kn ++ [x]))) := Same.add hp2'
              have eg : (upd Hf p2' (.tup (xs.take kn ++ [x]))) p2' = some (.tup (xs.take kn ++ [x])) := upd_same
              generalize upd Hf p2' (.tup (xs.take kn ++ [x])) = Hg at sg eg ⊢
              have kg := kf.same sg
              refine ⟨_, rfl, _, rfl, _, _, rfl, rfl, _, rfl, _, _, rfl, kg.tup hS, fun z => absurd z (not_whole_from k3), fun _ p3' hp3' => ?_⟩
              have ec3 : cutV xs (some ((kn : Int) + 1)) none = xs.drop (kn + 1) := ec2
              have sh : Same Hg (upd Hg p3' (.tup (cutV xs (some ((kn : Int) + 1)) none))) := Same.add hp3'
              have eh : (upd Hg p3' (.tup (cutV xs (some ((kn : Int) + 1)) none))) p3' = some (.tup (cutV xs (some ((kn : Int) + 1)) none)) := upd_same
              generalize upd Hg p3' (.tup (cutV xs (some ((kn : Int) + 1)) none)) = Hh at sh eh ⊢
              rw [ec3] at eh
              have kh := kg.same sh
              have hmid : OkL K Hh (xs.take kn ++ [x] ++ xs.drop (kn + 1)) := (hx.kp kh).mid ⟨(hxf.1.same sg).same sh, hxf.2⟩ k4 k3
              refine ⟨_, _, xs.take kn ++ [x], xs.drop (kn + 1), rfl, rfl, SqT.of (sh _ _ eg), SqT.of eh, line5 (by simp; omega), fun z => ?_, fun _ z => ?_, fun _ _ pq hpq => ?_⟩
              · cases (List.append_eq_nil_iff.mp z).2
              · refine q _ _ Hh kh (SqT.of (sh _ _ eg)) ?_ (by rw [List.length_append, List.length_take]; simp; omega)
                rw [z, List.append_nil] at hmid
                exact hmid
              · exact q pq _ _ (kh.add hpq) (SqT.of upd_same) (hmid.same (Same.add hpq)) (by simp; omega)
end
end Bm
set_option maxHeartbeats 1600000
namespace Bm
open PySem PySem.Spec PyProof.Rows L2
def LT1 : List (Str × List (Int × Int)) := [("halt", []), ("rest", []), ("back", []), ("say", [(0, 7)]), ("ask", [(0, 7)]), ("push", [(0, 7)]), ("pop", [(0, 7)])]
def LT2 : List (Str × List (Int × Int)) := [("plus", [(0, 7), (0, 7), (0 - 32, 31)]), ("set", [(0, 7), (0, 511)]), ("high", [(0, 7), (0, 127)])]
def LT3 : List (Str × List (Int × Int)) := [("load", [(0, 7), (0, 7), (0, 63)]), ("store", [(0, 7), (0, 7), (0, 63)]), ("call", [(0, 65535)])]
def LT4 : List (Str × List (Int × Int)) := SM.map fun z => (z, [(0, 7), (0, 7), (0, 7)])
theorem deed_eq {z : Str} {r : List V} {ks : List Str} (e : PT.lookup z = some ks) : deedB (.str z :: r) = (decide (r.length = ks.length) && ((ks.zip r).all fun p => partB p.1 p.2)) := by
  show (match PT.lookup z with
    | some ks => decide (r.length = ks.length) && ((ks.zip r).all fun p => partB p.1 p.2)
    | none => false) = _
  rw [e]
theorem deed_no {z : Str} {r : List V} (e : PT.lookup z = none) : deedB (.str z :: r) = false := by
  show (match PT.lookup z with
    | some ks => decide (r.length = ks.length) && ((ks.zip r).all fun p => partB p.1 p.2)
    | none => false) = _
  rw [e]
theorem deed_len {z : Str} {r : List V} {ks : List Str} (e : PT.lookup z = some ks) (h : r.length ≠ ks.length) : deedB (.str z :: r) = false := by
  rw [deed_eq e, decide_eq_false h, Bool.false_and]
theorem look_jump : PT.lookup ("jump" : Str) = some (["when", "goal", "far"] : List Str) := by decide +kernel
theorem look_call : PT.lookup ("call" : Str) = some (["goal", "far"] : List Str) := by decide +kernel
theorem part_when (v : V) : partB "when" v = isTm v := if_pos rfl
theorem part_far (v : V) : partB "far" v = isBl v := (if_neg (by decide +kernel)).trans (if_pos rfl)
theorem part_goal (v : V) : partB "goal" v = numB v 0 65535 := by
  have e : ST.lookup ("goal" : Str) = some ((0, 65535) : Int × Int) := by decide +kernel
  unfold partB
  rw [if_neg (by decide +kernel), if_neg (by decide +kernel), e]
theorem jump3 (v0 v1 v2 : V) : deedB [.str "jump", v0, v1, v2] = (isTm v0 && (numB v1 0 65535 && isBl v2)) := by
  rw [deed_eq look_jump]
  show (true && (partB "when" v0 && (partB "goal" v1 && (partB "far" v2 && true)))) = _
  rw [part_when, part_goal, part_far, Bool.true_and, Bool.and_true]
theorem call2 (v1 v2 : V) : deedB [.str "call", v1, v2] = (numB v1 0 65535 && isBl v2) := by
  rw [deed_eq look_call]
  show (true && (partB "goal" v1 && (partB "far" v2 && true))) = _
  rw [part_goal, part_far, Bool.true_and, Bool.and_true]
theorem tm_flat {v : V} (h : ∀ s, v ≠ .str s) : isTm v = false := by
  cases v with
  | str s => exact absurd rfl (h s)
  | _ => rfl
def LT : List (Str × List (Int × Int)) := LT1 ++ LT2 ++ LT3 ++ LT4
def rng (k : Str) : Option (Int × Int) := if k = "when" then none else if k = "far" then none else ST.lookup k
theorem rng_part {k : Str} {r : Int × Int} (e : rng k = some r) (v : V) : partB k v = numB v r.1 r.2 := by
  unfold rng at e
  unfold partB
  by_cases h1 : k = "when"
  · rw [if_pos h1] at e; cases e
  · rw [if_neg h1] at e
    by_cases h2 : k = "far"
    · rw [if_pos h2] at e; cases e
    · rw [if_neg h2] at e
      rw [if_neg h1, if_neg h2, e]
theorem lt_pt0 : ∀ e ∈ LT, e.1 = "call" ∨ (PT.any fun p => decide (p.1 = e.1 ∧ p.2.map rng = e.2.map some)) = true := by decide +kernel
theorem lt_pt : ∀ e ∈ LT, e.1 = "call" ∨ ∃ ks, (e.1, ks) ∈ PT ∧ ks.map rng = e.2.map some := fun e he => by
  rcases lt_pt0 e he with h | h
  · exact .inl h
  · obtain ⟨p, h1, h2⟩ := List.any_eq_true.mp h
    obtain ⟨h3, h4⟩ := of_decide_eq_true h2
    exact .inr ⟨p.2, by rw [← h3]; exact h1, h4⟩
theorem pt_lt : ∀ e ∈ PT, e.1 = "jump" ∨ e.1 = "call" ∨ (LT.lookup e.1).isSome = true := by decide +kernel
theorem odd_pt : ∀ z ∈ oddL, PT.lookup z = none := by decide +kernel
theorem parts_eq : ∀ (ks : List Str) (rs : List (Int × Int)) (r : List V), ks.map rng = rs.map some → ((ks.zip r).all fun p => partB p.1 p.2) = (r.zip rs).all fun p => numB p.1 p.2.1 p.2.2
  | [], [], r, _ => by cases r <;> rfl
  | [], _ :: _, _, h => by cases h
  | _ :: _, [], _, h => by cases h
  | _ :: _, _ :: _, [], _ => rfl
  | k :: ks, x :: rs, v :: r, h => by
    obtain ⟨h1, h2⟩ := List.cons.inj (show rng k :: ks.map rng = some x :: rs.map some from h)
    show (partB k v && ((ks.zip r).all fun p => partB p.1 p.2)) = (numB v x.1 x.2 && ((r.zip rs).all fun p => numB p.1 p.2.1 p.2.2))
    rw [rng_part h1, parts_eq ks rs r h2]
theorem lt_look {z : Str} {rs : List (Int × Int)} (h : LT.lookup z = some rs) (hc : z ≠ "call") : ∃ ks, PT.lookup z = some ks ∧ ks.length = rs.length ∧ ∀ r : List V, ((ks.zip r).all fun p => partB p.1 p.2) = (r.zip rs).all fun p => numB p.1 p.2.1 p.2.2 := by
  have m : ∀ {l : List (Str × List (Int × Int))}, l.lookup z = some rs → (z, rs) ∈ l := by
    intro l
    induction l with
    | nil => intro h; cases h
    | cons p l ih =>
      obtain ⟨y, b⟩ := p
      intro h
      rw [List.lookup_cons] at h
      by_cases c : z == y
      · rw [c] at h
        rw [eq_of_beq c, Option.some.inj h]
        exact List.mem_cons_self ..
      · rw [show (z == y) = false by simpa using c] at h
        exact List.mem_cons_of_mem _ (ih h)
  rcases lt_pt _ (m h) with e | ⟨ks, h1, h2⟩
  · exact absurd e hc
  · exact ⟨ks, pt_at _ h1, by simpa using congrArg List.length h2, fun r => parts_eq ks rs r h2⟩
/-! ones, as many as there are wrong parts -/
theorem dp_ones {α : Type} {K : PySem.W.Frag} {H : Hp} : ∀ l : List α, DpAll K H (l.map fun _ => V.int 1) (l.map fun _ => PyData.int 1)
  | [] => .nil
  | _ :: l => .cons (.int 1) (dp_ones l)
theorem ones_ok {α : Type} : ∀ l : List α, PyData.canLayAll0 (l.map fun _ => PyData.int 1) = true ∧ PyData.depthAll (l.map fun _ => PyData.int 1) = 0
  | [] => by simp [PyData.canLayAll0, PyData.depthAll]
  | _ :: l => by
    obtain ⟨h1, h2⟩ := ones_ok l
    simp [PyData.canLayAll0, PyData.depthAll, PyData.canLay0, PyData.depth, h1, h2]
theorem ones_shaped {α : Type} (l : List α) : SeqAt.shaped (.list (l.map fun _ => PyData.int 1)) = true := by
  obtain ⟨h1, h2⟩ := ones_ok l
  unfold SeqAt.shaped
  simp only [PyData.canLay0, PyData.depth, h1, h2, Bool.true_and]
  decide
theorem ones_eqv {α : Type} (l : List α) : PyData.eqv (.list (l.map fun _ => PyData.int 1)) (.list []) = l.isEmpty := by
  cases l <;> simp [PyData.eqv, PyData.eqvAll]
theorem none_bad {α : Type} (f : α → Bool) : ∀ l : List α, (l.filter fun p => !f p).isEmpty = l.all f
  | [] => rfl
  | x :: l => by
    rw [List.filter_cons, List.all_cons]
    cases f x with
    | true => exact none_bad f l
    | false => rfl
/-- the pairs that the words of two registers are told in -/
inductive Prs (K : PySem.W.Frag) (H : Hp) (D pg : Addr) : List Addr → List Str → Prop
  | nil : Prs K H D pg [] []
  | cons {p l : Addr} {z : Str} {ps : List Addr} {zs : List Str} : SqT K H p [.str z, .ref l] → SqL K H l [.ref pg, .ref pg, .ref pg] → l ≠ D → Prs K H D pg ps zs → Prs K H D pg (p :: ps) (z :: zs)
theorem Prs.map {K : PySem.W.Frag} {H H' : Hp} {D pg : Addr} (f : ∀ a xs, SqT K H a xs → SqT K H' a xs) (g : ∀ a xs, a ≠ D → SqL K H a xs → SqL K H' a xs) : ∀ {ps : List Addr} {zs : List Str}, Prs K H D pg ps zs → Prs K H' D pg ps zs
  | _, _, .nil => .nil
  | _, _, .cons h1 h2 n t => .cons (f _ _ h1) (g _ _ n h2) n (Prs.map f g t)
theorem Prs.same {K : PySem.W.Frag} {H H' : Hp} {D pg : Addr} {ps : List Addr} {zs : List Str} (e : Same H H') (h : Prs K H D pg ps zs) : Prs K H' D pg ps zs := h.map (fun _ _ q => Same.tup e q) (fun _ _ _ q => e.seq q)
theorem Prs.upd {K : PySem.W.Frag} {H : Hp} {D pg : Addr} {acc : List V} {o : HO} {ps : List Addr} {zs : List Str} (e : H D = some (.lst acc)) (h : Prs K H D pg ps zs) : Prs K (upd H D o) D pg ps zs :=
  h.map (fun a xs q => by
    rcases q with (q | ⟨u, q⟩) | q
    · exact .inl (.inl (by rw [upd_ne (fun z => by rw [z, e] at q; cases q)]; exact q))
    · exact .inl (.inr ⟨u, by rw [upd_ne (fun z => by rw [z, e] at q; cases q)]; exact q⟩)
    · exact .inr q) fun a xs n q => by
    rcases q with (q | ⟨u, q⟩) | q
    · exact .inl (.inl (by rw [upd_ne n]; exact q))
    · exact .inl (.inr ⟨u, by rw [upd_ne n]; exact q⟩)
    · exact .inr q
theorem Prs.snoc {K : PySem.W.Frag} {H : Hp} {D pg p l : Addr} {z : Str} (h1 : SqT K H p [.str z, .ref l]) (h2 : SqL K H l [.ref pg, .ref pg, .ref pg]) (n : l ≠ D) : ∀ {ps : List Addr} {zs : List Str}, Prs K H D pg ps zs → Prs K H D pg (ps ++ [p]) (zs ++ [z])
  | _, _, .nil => .cons h1 h2 n .nil
  | _, _, .cons a b c t => .cons a b c (Prs.snoc h1 h2 n t)
theorem Prs.len {K : PySem.W.Frag} {H : Hp} {D pg : Addr} : ∀ {ps : List Addr} {zs : List Str}, Prs K H D pg ps zs → ps.length = zs.length
  | _, _, .nil => rfl
  | _, _, .cons _ _ _ t => congrArg Nat.succ t.len
theorem Prs.tab {K : PySem.W.Frag} {H : Hp} {D pg : Addr} (hg : SqT K H pg [.int 0, .int 7]) : ∀ {ps : List Addr} {zs : List Str}, Prs K H D pg ps zs → ∃ kvs : List (Key × V), Paired (fun p kv => SqT K H p [kV kv.1, kv.2]) ps kvs ∧ Tab K H kvs (zs.map fun z => (z, [(0, 7), (0, 7), (0, 7)]))
  | _, _, .nil => ⟨[], .nil, .nil⟩
  | _, _, .cons (l := l) (z := z) a b _ t => by
    obtain ⟨kvs, h1, h2⟩ := t.tab hg
    exact ⟨(.inr z, .ref l) :: kvs, .cons a h1, .cons ⟨l, _, rfl, b, .cons hg (.cons hg (.cons hg .nil))⟩ h2⟩
section
variable {P : Program} {w : World} {K : PySem.W.Frag} {mg : Str → Option Value} {base : Heap} {f : Addr} {fd : FuncData} {dvs : List V}
abbrev KnWh (P : Program) (w : World) (K : PySem.W.Frag) (mg : Str → Option Value) (base : Heap) : Prop := Kn P w K mg base CX0 1 "_law_whole" ["_law_thing", "_law_low", "_law_high"] [] (spNum K)
/-! _law_is_deed -/
def spLook (K : PySem.W.Frag) : Sp := fun vs H Q _ => ∃ (a : Addr) (xs : List V), vs = [.ref a] ∧ SqT K H a xs ∧ OkL K H xs ∧ ∀ H', Same H H' → Q (.bl (deedB xs)) H'
abbrev N__law_is_deed : List Str := ["_law_deed_here", "_law_word", "_law_rest", "_law_r", "_law_kinds", "_law_one", "_law_low", "_law_high"]
theorem sc__law_is_deed : FnScope ["_law_deed_here", "_law_word", "_law_rest", "_law_r", "_law_kinds", "_law_one", "_law_low", "_law_high"] ["_law_deed_here"] (defScope s__law_is_deed) := ⟨rfl, rfl, rfl, by decide +kernel, rfl, by decide +kernel, by decide +kernel⟩
theorem ok_look (F : FunD K "_law_is_deed" "_law_is_deed" (defArgs s__law_is_deed) (defBody s__law_is_deed) (defScope s__law_is_deed) dvs [] f fd) (k__law_whole : KnWh P w K mg base) (k__law_pairs : KnNm P w K mg base "_law_pairs" SM) (k__law_times : KnNm P w K mg base "_law_times" TM)
    (g_isinstance : mg "isinstance" = none) (g_str : mg "str" = none) (g_bool : mg "bool" = none) (g_int : mg "int" = none) (g_len : mg "len" = none) (g_zip : mg "zip" = none) (g_dict : mg "dict" = none) : FnOk P w K mg base CX0 2 f fd ["_law_deed_here"] (spLook K) := by
  refine F.ok sc__law_is_deed (fun vs H Q E h => ?_) (fun cdv A outer s H vs Q E hr h => ?_)
  · obtain ⟨a, xs, rfl, _⟩ := h
    rfl
  · obtain ⟨a, xs, rfl, hS, hx, q⟩ := h
    refine ⟨_, PSs.nox (pss_cons (ps_if (PW.pt (pw_or (pt_cmpR (op_eqD hr.units) (pv 0) (pe_tup pa_nil) (nomark _)) (pw_or1 (pt_not (pt_val (pe_callB call_isi rfl g_isinstance (by decide +kernel) (pa_cons (pe_ix ix_tup (pv 0) pe_int (fun _ _ => rfl)) (pa_cons (pe_bltn (v := .ty "str") rfl g_str (by decide +kernel) rfl) pa_nil)))))))) (pss_one (ps_ret pe_bl)) pss_nil)
      (pss_cons (ps_par (i := 1) (j := 2) rfl sc__law_is_deed.nd rfl rfl (by decide) rfl rfl (pa_cons (pe_ix ix_tup (pv 0) pe_int (fun _ _ => rfl)) (pa_cons (pe_slice sl_tupA (pv 0) (po_some pe_int) po_none) pa_nil)) rfl)
      (pss_cons (ps_set (i := 3) sc__law_is_deed.nd rfl (Or.inr rfl) (pe_tup (pa_cons pe_int (pa_cons pe_int pa_nil))))
      (pss_cons (ps_set (i := 4) sc__law_is_deed.nd rfl (Or.inl rfl) (pe_disp (L2.pps_cons pe_str (pe_lst pa_nil) (L2.pps_cons pe_str (pe_lst pa_nil) (L2.pps_cons pe_str (pe_lst pa_nil) (L2.pps_cons pe_str (pe_lst (pa_cons (pv 3) pa_nil)) (L2.pps_cons pe_str (pe_lst (pa_cons (pv 3) pa_nil)) (L2.pps_cons pe_str (pe_lst (pa_cons (pv 3) pa_nil)) (L2.pps_cons pe_str (pe_lst (pa_cons (pv 3) pa_nil)) L2.pps_nil))))))) rfl rfl (fun z => by cases z) (by decide)))
      (pss_cons (ps_expr (pe_bm PySem.F.plainAttrs_dict PySem.F.slot_dict_update PySem.F.type_dict_update mt_dupd (pv 4) (pa_cons (pe_disp (L2.pps_cons pe_str (pe_lst (pa_cons (pv 3) (pa_cons (pv 3) (pa_cons (pe_tup (pa_cons (pe_op op_sub pe_int pe_int) (pa_cons pe_int pa_nil))) pa_nil)))) (L2.pps_cons pe_str (pe_lst (pa_cons (pv 3) (pa_cons (pe_tup (pa_cons pe_int (pa_cons pe_int pa_nil))) pa_nil))) (L2.pps_cons pe_str (pe_lst (pa_cons (pv 3) (pa_cons (pe_tup (pa_cons pe_int (pa_cons pe_int pa_nil))) pa_nil))) L2.pps_nil))) rfl rfl (fun z => by cases z) (by decide)) pa_nil)))
      (pss_cons (ps_expr (pe_bm PySem.F.plainAttrs_dict PySem.F.slot_dict_update PySem.F.type_dict_update mt_dupd (pv 4) (pa_cons (pe_disp (L2.pps_cons pe_str (pe_lst (pa_cons (pv 3) (pa_cons (pv 3) (pa_cons (pe_tup (pa_cons pe_int (pa_cons pe_int pa_nil))) pa_nil)))) (L2.pps_cons pe_str (pe_lst (pa_cons (pv 3) (pa_cons (pv 3) (pa_cons (pe_tup (pa_cons pe_int (pa_cons pe_int pa_nil))) pa_nil)))) (L2.pps_cons pe_str (pe_lst (pa_cons (pe_tup (pa_cons pe_int (pa_cons pe_int pa_nil))) pa_nil)) L2.pps_nil))) rfl rfl (fun z => by cases z) (by decide)) pa_nil)))
      (pss_cons (ps_expr (pe_bm PySem.F.plainAttrs_dict PySem.F.slot_dict_update PySem.F.type_dict_update mt_dupd (pv 4) (pa_cons (pe_callTy (call_dictP rfl) rfl g_dict (by decide +kernel) (pa_cons (pe_lc (own := [("_law_one", 5)]) (g := gName 5) rfl sc__law_is_deed.nd (pi_list (pk0 k__law_pairs hr (by decide) rfl pass0)) (blkOk_by (own := [("_law_one", 5)]) (N := N__law_is_deed) (sc := defScope s__law_is_deed) (by decide +kernel)) (fun _ _ _ _ _ => (pg_name (i := 5) sc__law_is_deed.nd rfl (Or.inl rfl))) (fun _ _ _ _ _ => pts_nil) (fun _ _ _ _ _ => (pe_tup (pa_cons (pv 5) (pa_cons (pe_lst (pa_cons (pv 3) (pa_cons (pv 3) (pa_cons (pv 3) pa_nil)))) pa_nil))))) pa_nil)) pa_nil)))
      (pss_cons (ps_if (pt_cmpR op_in_seq (pv 1) (pe_tup (pa_cons pe_str (pa_cons pe_str pa_nil))) rfl) (pss_cons (ps_if (PW.pt (pw_or (pt_cmpR op_ne (pe_callB call_len rfl g_len boot_len (pa_cons (pv 2) pa_nil)) (pe_op op_add pe_int (pe_callTy call_int1 rfl g_int (by decide +kernel) (pa_cons (pe_cmpR op_eq (pv 1) pe_str (nomark _)) pa_nil))) (nomark _)) (pw_or1 (pt_not (pt_val (pe_callB call_isi rfl g_isinstance (by decide +kernel) (pa_cons (pe_ix ix_tup (pv 2) (pe_un un_neg pe_int) (fun _ _ => rfl)) (pa_cons (pe_bltn (v := .ty "bool") rfl g_bool (by decide +kernel) rfl) pa_nil)))))))) (pss_one (ps_ret pe_bl)) pss_nil)
      (pss_cons (ps_if (PW.pt (pw_and (pt_cmpR op_eq (pv 1) pe_str (nomark _)) (pw_and1 (PW.pt (pw_or (pt_not (pt_val (pe_callB call_isi rfl g_isinstance (by decide +kernel) (pa_cons (pe_ix ix_tup (pv 2) pe_int (fun _ _ => rfl)) (pa_cons (pe_bltn (v := .ty "str") rfl g_str (by decide +kernel) rfl) pa_nil))))) (pw_or1 (pt_cmpR op_notIn_seq (pe_ix ix_tup (pv 2) pe_int (fun _ _ => rfl)) (pk0 k__law_times hr (by decide) rfl pass0) rfl))))))) (pss_one (ps_ret pe_bl)) pss_nil)
      (pss_one (ps_ret (pk k__law_whole hr (by decide) rfl pass0 (pa_cons (pe_ix ix_tup (pv 2) (pe_un un_neg pe_int) (fun _ _ => rfl)) (pa_cons pe_int (pa_cons pe_int pa_nil)))))))) pss_nil)
      (pss_cons (ps_if (PW.pt (pw_or (pt_cmpR (op_notInDk (hu_of hr)) (pv 1) (pv 4) rfl) (pw_or1 (pt_cmpR op_ne (pe_callB call_len rfl g_len boot_len (pa_cons (pv 2) pa_nil)) (pe_callB call_len rfl g_len boot_len (pa_cons (pe_dget (hu_of hr) (pv 4) (pv 1) (fun _ _ => rfl)) pa_nil)) (nomark _))))) (pss_one (ps_ret pe_bl)) pss_nil)
      (pss_one (ps_ret (pe_cmpR (op_eqD hr.units) (pe_lc (own := [("_law_one", 5), ("_law_low", 6), ("_law_high", 7)]) (g := gTup K 2 (gCons (gName 5) (gCons (gTup K 2 (gCons (gName 6) (gCons (gName 7) (gNil)))) (gNil)))) rfl sc__law_is_deed.nd (pi_zipM rfl g_zip (pa_cons (pv 2) (pa_cons (pe_dget (hu_of hr) (pv 4) (pv 1) (fun _ _ => rfl)) pa_nil))) (blkOk_by (own := [("_law_one", 5), ("_law_low", 6), ("_law_high", 7)]) (N := N__law_is_deed) (sc := defScope s__law_is_deed) (by decide +kernel)) (fun _ _ _ _ _ => (pg_tup rfl (pgs_cons (pg_name (i := 5) sc__law_is_deed.nd rfl (Or.inl rfl)) (pgs_cons (pg_tup rfl (pgs_cons (pg_name (i := 6) sc__law_is_deed.nd rfl (Or.inl rfl)) (pgs_cons (pg_name (i := 7) sc__law_is_deed.nd rfl (Or.inl rfl)) pgs_nil))) pgs_nil)))) (fun _ _ _ _ _ => (pts_one (pt_not (pt_val (pk k__law_whole hr (by decide) rfl pass0 (pa_cons (pv 5) (pa_cons (pv 6) (pa_cons (pv 7) pa_nil)))))))) (fun _ _ _ _ _ => pe_int)) (pe_lst pa_nil) (nomark _))))))))))))), ?_⟩
    refine ⟨_, rfl, line5 (by simp), fun pe hpe => ?_⟩
    have s0 : Same H (upd H pe (.tup [])) := Same.add hpe
    have e0 : (upd H pe (.tup [])) pe = some (.tup []) := upd_same
    generalize upd H pe (.tup []) = H0 at s0 e0 ⊢
    have hS0 := Same.tup s0 hS
    have hx0 := hx.same s0
    refine ⟨_, _, .tup hS0 (okAll_dp hx0.ok), .tup (SqT.of e0) .nil, tup_shaped hx.gd, by decide +kernel, _, rfl, ?_⟩
    rw [eqv_nil]
    cases xs with
    | nil => exact iteT (q H0 s0)
    | cons x r =>
      rw [decide_eq_false (by simp)]
      refine iteF ⟨_, rfl, a, _, _, _, rfl, rfl, hS0, at0, ?_⟩
      have hx1 := hx0.ok x (List.mem_cons_self ..)
      cases hx1 with
      | int i => exact ⟨_, _, _, _, _, rfl, .ty _, Knd.ty (.int i), kit_ty (r := false) (by decide +kernel), _, rfl, iteT (q H0 s0)⟩
      | bl b => exact ⟨_, _, _, _, _, rfl, .ty _, Knd.ty (.bl b), kit_ty (r := false) (by decide +kernel), _, rfl, iteT (q H0 s0)⟩
      | unit h => exact ⟨_, _, _, _, _, rfl, .ty _, Knd.ty (.tup h), kit_ty (r := false) (by decide +kernel), _, rfl, iteT (q H0 s0)⟩
      | str z =>
        refine ⟨_, _, _, _, _, rfl, .ty _, Knd.ty (.str z), kit_ty (r := true) (by decide +kernel), _, rfl, iteF ?_⟩
        refine ⟨_, rfl, a, _, _, _, rfl, rfl, hS0, at0, _, rfl, _, rfl, a, _, rfl, hS0, fun w => absurd w (not_whole_tail _ _), fun _ pr hpr => ?_⟩
        have s1 : Same H0 (upd H0 pr (.tup (cutV (.str z :: r) (some 1) none))) := Same.add hpr
        have e1 : (upd H0 pr (.tup (cutV (.str z :: r) (some 1) none))) pr = some (.tup (cutV (.str z :: r) (some 1) none)) := upd_same
        generalize upd H0 pr (.tup (cutV (.str z :: r) (some 1) none)) = H1 at s1 e1 ⊢
        rw [cut_tail] at e1
        refine ⟨_, _, rfl, line5 (by simp), fun pg hpg => ?_⟩
        have s2 : Same H1 (upd H1 pg (.tup [.int 0, .int 7])) := Same.add hpg
        have eg : (upd H1 pg (.tup [.int 0, .int 7])) pg = some (.tup [.int 0, .int 7]) := upd_same
        generalize upd H1 pg (.tup [.int 0, .int 7]) = H2 at s2 eg ⊢
        refine fun pd hpd => ?_
        have sd : Same H2 (upd H2 pd (.dK [])) := Same.add hpd
        have ed : (upd H2 pd (.dK [])) pd = some (.dK []) := upd_same
        generalize upd H2 pd (.dK []) = G3 at sd ed ⊢
        have sB3 : Same H G3 := Same.trans s0 (Same.trans s1 (Same.trans s2 sd))
        have hr3 : SqT K G3 pr r := SqT.of (sd _ _ (s2 _ _ e1))
        have hg3 : SqT K G3 pg [.int 0, .int 7] := SqT.of (sd _ _ eg)
        have hnd : H pd = none := Same.none (Same.trans s0 (Same.trans s1 s2)) hpd
        refine ⟨line5 (by simp), fun la1 hla1 => ?_⟩
        have sla1 : Same G3 (upd G3 la1 (.lst [])) := Same.add hla1
        have ela1 : (upd G3 la1 (.lst [])) la1 = some (.lst []) := upd_same
        generalize upd G3 la1 (.lst []) = G4 at sla1 ela1 ⊢
        refine ⟨line5 (by simp), fun la2 hla2 => ?_⟩
        have sla2 : Same G4 (upd G4 la2 (.lst [])) := Same.add hla2
        have ela2 : (upd G4 la2 (.lst [])) la2 = some (.lst []) := upd_same
        generalize upd G4 la2 (.lst []) = G5 at sla2 ela2 ⊢
        refine ⟨line5 (by simp), fun la3 hla3 => ?_⟩
        have sla3 : Same G5 (upd G5 la3 (.lst [])) := Same.add hla3
        have ela3 : (upd G5 la3 (.lst [])) la3 = some (.lst []) := upd_same
        generalize upd G5 la3 (.lst []) = G6 at sla3 ela3 ⊢
        refine ⟨_, rfl, line5 (by simp), fun la4 hla4 => ?_⟩
        have sla4 : Same G6 (upd G6 la4 (.lst [.ref pg])) := Same.add hla4
        have ela4 : (upd G6 la4 (.lst [.ref pg])) la4 = some (.lst [.ref pg]) := upd_same
        generalize upd G6 la4 (.lst [.ref pg]) = G7 at sla4 ela4 ⊢
        refine ⟨_, rfl, line5 (by simp), fun la5 hla5 => ?_⟩
        have sla5 : Same G7 (upd G7 la5 (.lst [.ref pg])) := Same.add hla5
        have ela5 : (upd G7 la5 (.lst [.ref pg])) la5 = some (.lst [.ref pg]) := upd_same
        generalize upd G7 la5 (.lst [.ref pg]) = G8 at sla5 ela5 ⊢
        refine ⟨_, rfl, line5 (by simp), fun la6 hla6 => ?_⟩
        have sla6 : Same G8 (upd G8 la6 (.lst [.ref pg])) := Same.add hla6
        have ela6 : (upd G8 la6 (.lst [.ref pg])) la6 = some (.lst [.ref pg]) := upd_same
        generalize upd G8 la6 (.lst [.ref pg]) = G9 at sla6 ela6 ⊢
        refine ⟨_, rfl, line5 (by simp), fun la7 hla7 => ?_⟩
        have sla7 : Same G9 (upd G9 la7 (.lst [.ref pg])) := Same.add hla7
        have ela7 : (upd G9 la7 (.lst [.ref pg])) la7 = some (.lst [.ref pg]) := upd_same
        generalize upd G9 la7 (.lst [.ref pg]) = G10 at sla7 ela7 ⊢
        have ca10 : Same G10 G10 := Same.refl _
        have ca9 : Same G9 G10 := Same.trans sla7 ca10
        have ca8 : Same G8 G10 := Same.trans sla6 ca9
        have ca7 : Same G7 G10 := Same.trans sla5 ca8
        have ca6 : Same G6 G10 := Same.trans sla4 ca7
        have ca5 : Same G5 G10 := Same.trans sla3 ca6
        have ca4 : Same G4 G10 := Same.trans sla2 ca5
        have ca3 : Same G3 G10 := Same.trans sla1 ca4
        have hgn := Same.tup ca3 hg3
        have tb : Tab K G10 [(.inr "halt", .ref la1), (.inr "rest", .ref la2), (.inr "back", .ref la3), (.inr "say", .ref la4), (.inr "ask", .ref la5), (.inr "push", .ref la6), (.inr "pop", .ref la7)] LT1 := (.cons ⟨la1, _, rfl, SqL.of (ca4 _ _ ela1), .nil⟩ (.cons ⟨la2, _, rfl, SqL.of (ca5 _ _ ela2), .nil⟩ (.cons ⟨la3, _, rfl, SqL.of (ca6 _ _ ela3), .nil⟩ (.cons ⟨la4, _, rfl, SqL.of (ca7 _ _ ela4), (.cons hgn .nil)⟩ (.cons ⟨la5, _, rfl, SqL.of (ca8 _ _ ela5), (.cons hgn .nil)⟩ (.cons ⟨la6, _, rfl, SqL.of (ca9 _ _ ela6), (.cons hgn .nil)⟩ (.cons ⟨la7, _, rfl, SqL.of (ca10 _ _ ela7), (.cons hgn .nil)⟩ .nil)))))))
        refine ⟨ca3 _ _ ed, [(.inr "halt", .ref la1), (.inr "rest", .ref la2), (.inr "back", .ref la3), (.inr "say", .ref la4), (.inr "ask", .ref la5), (.inr "push", .ref la6), (.inr "pop", .ref la7)], rfl, by simp, ?_⟩
        rw [merge0 tb (by decide +kernel)]
        generalize ([(.inr "halt", .ref la1), (.inr "rest", .ref la2), (.inr "back", .ref la3), (.inr "say", .ref la4), (.inr "ask", .ref la5), (.inr "push", .ref la6), (.inr "pop", .ref la7)] : List (Key × V)) = kv1 at tb ⊢
        have k1 : Kst K H pd pr pg r (upd G10 pd (.dK kv1)) kv1 LT1 := ⟨Same.mut (Same.trans sB3 ca3) hnd, But.upd.tup (ca3 _ _ ed) (Same.tup ca3 hr3), But.upd.tup (ca3 _ _ ed) hgn, upd_same, tb.but But.upd (ca3 _ _ ed), hnd⟩
        clear tb hgn
        generalize upd G10 pd (.dK kv1) = F1 at k1 ⊢
        clear ca3 ca4 ca5 ca6 ca7 ca8 ca9 ca10
        refine ⟨_, rfl, .inr (.inr (.inl ⟨rfl, .inl ⟨_, k1.d⟩⟩)), fun q2 hq2 => ?_⟩
        have nq2 : pd ≠ q2 := ne_of_none k1.d hq2
        have nH2 : H q2 = none := Same.none k1.same hq2
        have sq2 : Same F1 (upd F1 q2 (.dK [])) := Same.add hq2
        have eq2 : (upd F1 q2 (.dK [])) q2 = some (.dK []) := upd_same
        generalize upd F1 q2 (.dK []) = G200 at sq2 eq2 ⊢
        refine ⟨_, rfl, _, rfl, _, _, rfl, rfl, line5 (by simp), fun tb1 htb1 => ?_⟩
        have stb1 : Same G200 (upd G200 tb1 (.tup [.int (0 - 32), .int 31])) := Same.add htb1
        have etb1 : (upd G200 tb1 (.tup [.int (0 - 32), .int 31])) tb1 = some (.tup [.int (0 - 32), .int 31]) := upd_same
        generalize upd G200 tb1 (.tup [.int (0 - 32), .int 31]) = G201 at stb1 etb1 ⊢
        refine ⟨line5 (by simp), fun lb2 hlb2 => ?_⟩
        have slb2 : Same G201 (upd G201 lb2 (.lst [.ref pg, .ref pg, .ref tb1])) := Same.add hlb2
        have elb2 : (upd G201 lb2 (.lst [.ref pg, .ref pg, .ref tb1])) lb2 = some (.lst [.ref pg, .ref pg, .ref tb1]) := upd_same
        generalize upd G201 lb2 (.lst [.ref pg, .ref pg, .ref tb1]) = G202 at slb2 elb2 ⊢
        refine ⟨_, rfl, line5 (by simp), fun tb3 htb3 => ?_⟩
        have stb3 : Same G202 (upd G202 tb3 (.tup [.int 0, .int 511])) := Same.add htb3
        have etb3 : (upd G202 tb3 (.tup [.int 0, .int 511])) tb3 = some (.tup [.int 0, .int 511]) := upd_same
        generalize upd G202 tb3 (.tup [.int 0, .int 511]) = G203 at stb3 etb3 ⊢
        refine ⟨line5 (by simp), fun lb4 hlb4 => ?_⟩
        have slb4 : Same G203 (upd G203 lb4 (.lst [.ref pg, .ref tb3])) := Same.add hlb4
        have elb4 : (upd G203 lb4 (.lst [.ref pg, .ref tb3])) lb4 = some (.lst [.ref pg, .ref tb3]) := upd_same
        generalize upd G203 lb4 (.lst [.ref pg, .ref tb3]) = G204 at slb4 elb4 ⊢
        refine ⟨_, rfl, line5 (by simp), fun tb5 htb5 => ?_⟩
        have stb5 : Same G204 (upd G204 tb5 (.tup [.int 0, .int 127])) := Same.add htb5
        have etb5 : (upd G204 tb5 (.tup [.int 0, .int 127])) tb5 = some (.tup [.int 0, .int 127]) := upd_same
        generalize upd G204 tb5 (.tup [.int 0, .int 127]) = G205 at stb5 etb5 ⊢
        refine ⟨line5 (by simp), fun lb6 hlb6 => ?_⟩
        have slb6 : Same G205 (upd G205 lb6 (.lst [.ref pg, .ref tb5])) := Same.add hlb6
        have elb6 : (upd G205 lb6 (.lst [.ref pg, .ref tb5])) lb6 = some (.lst [.ref pg, .ref tb5]) := upd_same
        generalize upd G205 lb6 (.lst [.ref pg, .ref tb5]) = G206 at slb6 elb6 ⊢
        have cb206 : Same G206 G206 := Same.refl _
        have cb205 : Same G205 G206 := Same.trans slb6 cb206
        have cb204 : Same G204 G206 := Same.trans stb5 cb205
        have cb203 : Same G203 G206 := Same.trans slb4 cb204
        have cb202 : Same G202 G206 := Same.trans stb3 cb203
        have cb201 : Same G201 G206 := Same.trans slb2 cb202
        have cb200 : Same G200 G206 := Same.trans stb1 cb201
        have m2 := (k1.add sq2).add cb200
        have tb : Tab K G206 [(.inr "plus", .ref lb2), (.inr "set", .ref lb4), (.inr "high", .ref lb6)] LT2 := (.cons ⟨lb2, _, rfl, SqL.of (cb202 _ _ elb2), (.cons m2.g (.cons m2.g (.cons (SqT.of (cb201 _ _ etb1)) .nil)))⟩ (.cons ⟨lb4, _, rfl, SqL.of (cb204 _ _ elb4), (.cons m2.g (.cons (SqT.of (cb203 _ _ etb3)) .nil))⟩ (.cons ⟨lb6, _, rfl, SqL.of (cb206 _ _ elb6), (.cons m2.g (.cons (SqT.of (cb205 _ _ etb5)) .nil))⟩ .nil)))
        refine ⟨cb200 _ _ eq2, [(.inr "plus", .ref lb2), (.inr "set", .ref lb4), (.inr "high", .ref lb6)], rfl, by simp, ?_⟩
        rw [merge0 tb (by decide +kernel)]
        generalize ([(.inr "plus", .ref lb2), (.inr "set", .ref lb4), (.inr "high", .ref lb6)] : List (Key × V)) = kv2 at tb ⊢
        obtain ⟨m2, tb⟩ := m2.put (cb200 _ _ eq2) nH2 nq2 tb
        have eu : (upd G206 q2 (.dK kv2)) q2 = some (.dK kv2) := upd_same
        generalize upd G206 q2 (.dK kv2) = J2 at m2 tb eu ⊢
        obtain ⟨eM, k2⟩ := m2.join tb (by decide +kernel)
        refine ⟨pd, q2, _, _, rfl, rfl, nq2, m2.d, eu, ?_, ?_⟩
        · rw [m2.tab.len, tb.len]
          decide
        rw [eM]
        generalize upd J2 pd (.dK _) = F2 at k2 ⊢
        clear eM tb eu m2 cb200 cb201 cb202 cb203 cb204 cb205 cb206
        refine ⟨_, rfl, .inr (.inr (.inl ⟨rfl, .inl ⟨_, k2.d⟩⟩)), fun q3 hq3 => ?_⟩
        have nq3 : pd ≠ q3 := ne_of_none k2.d hq3
        have nH3 : H q3 = none := Same.none k2.same hq3
        have sq3 : Same F2 (upd F2 q3 (.dK [])) := Same.add hq3
        have eq3 : (upd F2 q3 (.dK [])) q3 = some (.dK []) := upd_same
        generalize upd F2 q3 (.dK []) = G300 at sq3 eq3 ⊢
        refine ⟨_, rfl, _, rfl, line5 (by simp), fun tc1 htc1 => ?_⟩
        have stc1 : Same G300 (upd G300 tc1 (.tup [.int 0, .int 63])) := Same.add htc1
        have etc1 : (upd G300 tc1 (.tup [.int 0, .int 63])) tc1 = some (.tup [.int 0, .int 63]) := upd_same
        generalize upd G300 tc1 (.tup [.int 0, .int 63]) = G301 at stc1 etc1 ⊢
        refine ⟨line5 (by simp), fun lc2 hlc2 => ?_⟩
        have slc2 : Same G301 (upd G301 lc2 (.lst [.ref pg, .ref pg, .ref tc1])) := Same.add hlc2
        have elc2 : (upd G301 lc2 (.lst [.ref pg, .ref pg, .ref tc1])) lc2 = some (.lst [.ref pg, .ref pg, .ref tc1]) := upd_same
        generalize upd G301 lc2 (.lst [.ref pg, .ref pg, .ref tc1]) = G302 at slc2 elc2 ⊢
        refine ⟨_, rfl, _, rfl, line5 (by simp), fun tc3 htc3 => ?_⟩
        have stc3 : Same G302 (upd G302 tc3 (.tup [.int 0, .int 63])) := Same.add htc3
        have etc3 : (upd G302 tc3 (.tup [.int 0, .int 63])) tc3 = some (.tup [.int 0, .int 63]) := upd_same
        generalize upd G302 tc3 (.tup [.int 0, .int 63]) = G303 at stc3 etc3 ⊢
        refine ⟨line5 (by simp), fun lc4 hlc4 => ?_⟩
        have slc4 : Same G303 (upd G303 lc4 (.lst [.ref pg, .ref pg, .ref tc3])) := Same.add hlc4
        have elc4 : (upd G303 lc4 (.lst [.ref pg, .ref pg, .ref tc3])) lc4 = some (.lst [.ref pg, .ref pg, .ref tc3]) := upd_same
        generalize upd G303 lc4 (.lst [.ref pg, .ref pg, .ref tc3]) = G304 at slc4 elc4 ⊢
        refine ⟨line5 (by simp), fun tc5 htc5 => ?_⟩
        have stc5 : Same G304 (upd G304 tc5 (.tup [.int 0, .int 65535])) := Same.add htc5
        have etc5 : (upd G304 tc5 (.tup [.int 0, .int 65535])) tc5 = some (.tup [.int 0, .int 65535]) := upd_same
        generalize upd G304 tc5 (.tup [.int 0, .int 65535]) = G305 at stc5 etc5 ⊢
        refine ⟨line5 (by simp), fun lc6 hlc6 => ?_⟩
        have slc6 : Same G305 (upd G305 lc6 (.lst [.ref tc5])) := Same.add hlc6
        have elc6 : (upd G305 lc6 (.lst [.ref tc5])) lc6 = some (.lst [.ref tc5]) := upd_same
        generalize upd G305 lc6 (.lst [.ref tc5]) = G306 at slc6 elc6 ⊢
        have cc306 : Same G306 G306 := Same.refl _
        have cc305 : Same G305 G306 := Same.trans slc6 cc306
        have cc304 : Same G304 G306 := Same.trans stc5 cc305
        have cc303 : Same G303 G306 := Same.trans slc4 cc304
        have cc302 : Same G302 G306 := Same.trans stc3 cc303
        have cc301 : Same G301 G306 := Same.trans slc2 cc302
        have cc300 : Same G300 G306 := Same.trans stc1 cc301
        have m3 := (k2.add sq3).add cc300
        have tb : Tab K G306 [(.inr "load", .ref lc2), (.inr "store", .ref lc4), (.inr "call", .ref lc6)] LT3 := (.cons ⟨lc2, _, rfl, SqL.of (cc302 _ _ elc2), (.cons m3.g (.cons m3.g (.cons (SqT.of (cc301 _ _ etc1)) .nil)))⟩ (.cons ⟨lc4, _, rfl, SqL.of (cc304 _ _ elc4), (.cons m3.g (.cons m3.g (.cons (SqT.of (cc303 _ _ etc3)) .nil)))⟩ (.cons ⟨lc6, _, rfl, SqL.of (cc306 _ _ elc6), (.cons (SqT.of (cc305 _ _ etc5)) .nil)⟩ .nil)))
        refine ⟨cc300 _ _ eq3, [(.inr "load", .ref lc2), (.inr "store", .ref lc4), (.inr "call", .ref lc6)], rfl, by simp, ?_⟩
        rw [merge0 tb (by decide +kernel)]
        generalize ([(.inr "load", .ref lc2), (.inr "store", .ref lc4), (.inr "call", .ref lc6)] : List (Key × V)) = kv3 at tb ⊢
        obtain ⟨m3, tb⟩ := m3.put (cc300 _ _ eq3) nH3 nq3 tb
        have eu : (upd G306 q3 (.dK kv3)) q3 = some (.dK kv3) := upd_same
        generalize upd G306 q3 (.dK kv3) = J3 at m3 tb eu ⊢
        obtain ⟨eM, k3⟩ := m3.join tb (by decide +kernel)
        refine ⟨pd, q3, _, _, rfl, rfl, nq3, m3.d, eu, ?_, ?_⟩
        · rw [m3.tab.len, tb.len]
          decide
        rw [eM]
        generalize upd J3 pd (.dK _) = F3 at k3 ⊢
        clear eM tb eu m3 cc300 cc301 cc302 cc303 cc304 cc305 cc306
        refine ⟨_, rfl, .inr (.inr (.inl ⟨rfl, .inl ⟨_, k3.d⟩⟩)), rfl, fun pp F4 hpp spp epp => ⟨pp, rfl, ⟨_, SqL.of epp⟩, fun D hD => ?_⟩⟩
        have k4 := k3.add spp
        refine lc_it walk_list (fun i H2 => Same F4 H2 ∧ ∃ ps : List Addr, H2 D = some (.lst (ps.map V.ref)) ∧ Prs K H2 D pg ps (SM.take i)) ⟨Same.add hD, [], upd_same, .nil⟩ (fun i H2 _ p => p.1.seq (SqL.of epp)) ?_ ?_
        · rintro i v H2 H3 hi ⟨p1, ps, p2, p3⟩ ⟨rfl, hv⟩
          obtain ⟨y, hy, rfl⟩ : ∃ y, SM[i]? = some y ∧ v = .str y := by
            rw [List.getElem?_map] at hv
            cases e : SM[i]? with
            | none => rw [e] at hv; cases hv
            | some y =>
              rw [e] at hv
              exact ⟨y, rfl, (Option.some.inj hv).symm⟩
          refine ⟨rfl, ?_⟩
          refine ⟨_, rfl, _, rfl, _, rfl, _, rfl, line5 (by simp), fun l hl => ?_⟩
          have s4 : Same H3 (upd H3 l (.lst [.ref pg, .ref pg, .ref pg])) := Same.add hl
          have e4 : (upd H3 l (.lst [.ref pg, .ref pg, .ref pg])) l = some (.lst [.ref pg, .ref pg, .ref pg]) := upd_same
          generalize upd H3 l (.lst [.ref pg, .ref pg, .ref pg]) = H4 at s4 e4 ⊢
          refine ⟨line5 (by simp), fun p hp => ?_⟩
          have s5 : Same H4 (upd H4 p (.tup [.str y, .ref l])) := Same.add hp
          have e5 : (upd H4 p (.tup [.str y, .ref l])) p = some (.tup [.str y, .ref l]) := upd_same
          generalize upd H4 p (.tup [.str y, .ref l]) = H5 at s5 e5 ⊢
          have s35 := Same.trans s4 s5
          have nl : l ≠ D := fun z => by
            rw [z, p2] at hl
            cases hl
          refine ⟨_, s35 _ _ p2, line_lt ?_, Same.mut (Same.trans p1 s35) hD, ps ++ [p], ?_, ?_⟩
          · rw [List.length_map, p3.len, List.length_take]
            have : SM.length = 8 := rfl
            omega
          · rw [upd_same, List.map_append]
            rfl
          · rw [take_succ' hy]
            exact (Prs.snoc (SqT.of e5) (SqL.of (s5 _ _ e4)) nl (p3.same s35)).upd (s35 _ _ p2)
        · rintro H2 ⟨p1, ps, p2, p3⟩
          rw [List.length_map, List.take_length] at p3
          have k5 := k4.add p1
          obtain ⟨kv4, hpa, tb⟩ := p3.tab k5.g
          refine ⟨D, ps, kv4, rfl, SqL.of p2, hpa, fun q4 hq4 => ?_⟩
          have nq4 : pd ≠ q4 := ne_of_none k5.d hq4
          rw [merge0 (T := LT4) tb (by decide +kernel)]
          have s6 : Same H2 (upd H2 q4 (.dK kv4)) := Same.add hq4
          have e6 : (upd H2 q4 (.dK kv4)) q4 = some (.dK kv4) := upd_same
          generalize upd H2 q4 (.dK kv4) = H6 at s6 e6 ⊢
          have k6 := k5.add s6
          have tb6 : Tab K H6 kv4 LT4 := Tab.same s6 tb
          obtain ⟨eM, k7⟩ := k6.join tb6 (by decide +kernel)
          refine ⟨pd, q4, _, _, rfl, rfl, nq4, k6.d, e6, ?_, ?_⟩
          · rw [k6.tab.len, tb6.len]
            decide
          rw [eM]
          generalize upd H6 pd (.dK _) = F7 at k7 ⊢
          clear eM tb6 k6 e6 s6 tb hpa k5 p1 p2 p3
          refine ⟨_, rfl, line5 (by simp), fun pj hpj => ?_⟩
          have s8 : Same F7 (upd F7 pj (.tup [.str "jump", .str "call"])) := Same.add hpj
          have e8 : (upd F7 pj (.tup [.str "jump", .str "call"])) pj = some (.tup [.str "jump", .str "call"]) := upd_same
          generalize upd F7 pj (.tup [.str "jump", .str "call"]) = F8 at s8 e8 ⊢
          have k8 := k7.add s8
          refine ⟨_, _, rfl, .inr (SqT.of e8), rfl, rfl, _, rfl, ?_⟩
          have hxr : ∀ {H9 : Hp}, Same H H9 → ∀ v ∈ r, OkV K H9 v := fun e v hv => OkV.same e (hx.ok v (List.mem_cons_of_mem _ hv))
          by_cases hj : z = "jump"
          · subst hj
            refine iteT ?_
            refine ⟨_, rfl, _, _, rfl, .inr ⟨_, k8.rest, rfl⟩, _, rfl, rfl, .inr ⟨_, rfl, _, _, rfl, rfl, rfl, _, rfl, ?_⟩⟩
            have key : (!decide (V.int ((r.length : Nat) : Int) = V.int (2 + if decide (V.str ("jump" : Str) = V.str "jump") = true then 1 else 0))) = !decide (r.length = 3) := by
              rw [decide_eq_true (rfl : V.str ("jump" : Str) = V.str "jump"), if_pos rfl]
              exact congrArg Bool.not (decide_eq_decide.mpr ⟨fun h => by have h2 := V.int.inj h; omega, fun h => congrArg V.int (by omega)⟩)
            rw [key]
            by_cases hl : r.length = 3
            · rw [decide_eq_true hl]
              obtain ⟨v0, v1, v2, rfl⟩ : ∃ v0 v1 v2, r = [v0, v1, v2] := by
                match r, hl with
                | [a, b, c], _ => exact ⟨a, b, c, rfl⟩
              have qj : ∀ {b : Bool} {H9 : Hp}, Same H H9 → (isTm v0 && (numB v1 0 65535 && isBl v2)) = b → Q (.bl b) H9 := fun e eb => by
                rw [← eb, ← jump3]
                exact q _ e
              have o2 := hxr k8.same v2 (by simp)
              have o0 := hxr k8.same v0 (by simp)
              refine iteF ⟨_, rfl, _, rfl, pr, _, _, _, rfl, rfl, k8.rest, (rfl : atI [v0, v1, v2] (-1) = some v2), ?_⟩
              have nob : isBl v2 = false → (isTm v0 && (numB v1 0 65535 && isBl v2)) = false := fun e => by rw [e, Bool.and_false, Bool.and_false]
              cases o2 with
              | int i => exact ⟨_, _, _, _, _, rfl, .ty _, Knd.ty (.int i), kit_ty (r := false) (by decide +kernel), _, rfl, iteT (qj k8.same (nob rfl))⟩
              | str y => exact ⟨_, _, _, _, _, rfl, .ty _, Knd.ty (.str y), kit_ty (r := false) (by decide +kernel), _, rfl, iteT (qj k8.same (nob rfl))⟩
              | unit h => exact ⟨_, _, _, _, _, rfl, .ty _, Knd.ty (.tup h), kit_ty (r := false) (by decide +kernel), _, rfl, iteT (qj k8.same (nob rfl))⟩
              | bl b =>
                refine ⟨_, _, _, _, _, rfl, .ty _, Knd.ty (.bl b), kit_ty (r := true) (by decide +kernel), _, rfl, iteF ?_⟩
                refine ⟨_, rfl, rfl, _, rfl, ?_⟩
                rw [decide_eq_true (rfl : V.str ("jump" : Str) = V.str "jump")]
                refine iteT ⟨_, rfl, pr, _, _, _, rfl, rfl, k8.rest, at0, ?_⟩
                have not_ : isTm v0 = false → (isTm v0 && (numB v1 0 65535 && isBl (.bl b))) = false := fun e => by rw [e, Bool.false_and]
                cases o0 with
                | int i => exact ⟨_, _, _, _, _, rfl, .ty _, Knd.ty (.int i), kit_ty (r := false) (by decide +kernel), _, rfl, iteT (qj k8.same (not_ rfl))⟩
                | bl b0 => exact ⟨_, _, _, _, _, rfl, .ty _, Knd.ty (.bl b0), kit_ty (r := false) (by decide +kernel), _, rfl, iteT (qj k8.same (not_ rfl))⟩
                | unit h => exact ⟨_, _, _, _, _, rfl, .ty _, Knd.ty (.tup h), kit_ty (r := false) (by decide +kernel), _, rfl, iteT (qj k8.same (not_ rfl))⟩
                | str y =>
                  refine ⟨_, _, _, _, _, rfl, .ty _, Knd.ty (.str y), kit_ty (r := true) (by decide +kernel), _, rfl, iteF ?_⟩
                  refine ⟨_, rfl, pr, _, _, _, rfl, rfl, k8.rest, at0, rfl, fun pt F9 hpt s9 e9 => ?_⟩
                  have k9 := k8.add s9
                  refine ⟨pt, _, rfl, .inl (SqL.of e9), rfl, flat_strs TM, _, rfl, ?_⟩
                  have et : inV (.str y) (TM.map V.str) = isTm (.str y) := by
                    unfold inV isTm
                    rw [List.any_map]
                    rfl
                  show if (!inV (.str y) (TM.map V.str)) = true then _ else _
                  rw [et]
                  cases c : isTm (.str y) with
                  | false => exact iteT (qj k9.same (not_ c))
                  | true =>
                    refine iteF ⟨_, rfl, _, rfl, pr, _, _, _, rfl, rfl, k9.rest, (rfl : atI [.str y, v1, .bl b] (-2) = some v1), v1, 0, 65535, rfl, hxr k9.same v1 (by simp), qj k9.same ?_⟩
                    rw [c, Bool.true_and]
                    exact Bool.and_true _
            · rw [decide_eq_false hl]
              refine iteT ?_
              have e := deed_len look_jump hl
              have := q _ k8.same
              rw [e] at this
              exact this
          · by_cases hcl : z = "call"
            · subst hcl
              refine iteT ?_
              refine ⟨_, rfl, _, _, rfl, .inr ⟨_, k8.rest, rfl⟩, _, rfl, rfl, .inr ⟨_, rfl, _, _, rfl, rfl, rfl, _, rfl, ?_⟩⟩
              have nj : decide (V.str ("call" : Str) = V.str "jump") = false := by decide +kernel
              have key : (!decide (V.int ((r.length : Nat) : Int) = V.int (2 + if decide (V.str ("call" : Str) = V.str "jump") = true then 1 else 0))) = !decide (r.length = 2) := by
                rw [nj, if_neg (by decide)]
                exact congrArg Bool.not (decide_eq_decide.mpr ⟨fun h => by have h2 := V.int.inj h; omega, fun h => congrArg V.int (by omega)⟩)
              rw [key]
              by_cases hl : r.length = 2
              · rw [decide_eq_true hl]
                obtain ⟨v1, v2, rfl⟩ : ∃ v1 v2, r = [v1, v2] := by
                  match r, hl with
                  | [a, b], _ => exact ⟨a, b, rfl⟩
                have qj : ∀ {b : Bool} {H9 : Hp}, Same H H9 → (numB v1 0 65535 && isBl v2) = b → Q (.bl b) H9 := fun e eb => by
                  rw [← eb, ← call2]
                  exact q _ e
                have o2 := hxr k8.same v2 (by simp)
                refine iteF ⟨_, rfl, _, rfl, pr, _, _, _, rfl, rfl, k8.rest, (rfl : atI [v1, v2] (-1) = some v2), ?_⟩
                have nob : isBl v2 = false → (numB v1 0 65535 && isBl v2) = false := fun e => by rw [e, Bool.and_false]
                cases o2 with
                | int i => exact ⟨_, _, _, _, _, rfl, .ty _, Knd.ty (.int i), kit_ty (r := false) (by decide +kernel), _, rfl, iteT (qj k8.same (nob rfl))⟩
                | str y => exact ⟨_, _, _, _, _, rfl, .ty _, Knd.ty (.str y), kit_ty (r := false) (by decide +kernel), _, rfl, iteT (qj k8.same (nob rfl))⟩
                | unit h => exact ⟨_, _, _, _, _, rfl, .ty _, Knd.ty (.tup h), kit_ty (r := false) (by decide +kernel), _, rfl, iteT (qj k8.same (nob rfl))⟩
                | bl b =>
                  refine ⟨_, _, _, _, _, rfl, .ty _, Knd.ty (.bl b), kit_ty (r := true) (by decide +kernel), _, rfl, iteF ?_⟩
                  refine ⟨_, rfl, rfl, _, rfl, ?_⟩
                  rw [nj]
                  exact iteF ⟨_, rfl, _, rfl, pr, _, _, _, rfl, rfl, k8.rest, (rfl : atI [v1, .bl b] (-2) = some v1), v1, 0, 65535, rfl, hxr k8.same v1 (by simp), qj k8.same (Bool.and_true _)⟩
              · rw [decide_eq_false hl]
                refine iteT ?_
                have e := deed_len look_call hl
                have := q _ k8.same
                rw [e] at this
                exact this
            · have ni : inV (.str z) [.str "jump", .str "call"] = false := by
                show ((("jump" : Str) == z) || ((("call" : Str) == z) || false)) = false
                rw [beq_eq_false_iff_ne.mpr (Ne.symm hj), beq_eq_false_iff_ne.mpr (Ne.symm hcl)]
                rfl
              show if inV (.str z) [.str "jump", .str "call"] = true then _ else _
              rw [ni]
              refine iteF ⟨_, rfl, _, rfl, pd, _, rfl, DGet.k (k := .inr z) k8.d, _, rfl, ?_⟩
              have lk := k8.tab.look z
              cases el : LT.lookup z with
              | none =>
                have lk : match LT.lookup z with
                  | some rs => ∃ v, valV (kv1 ++ kv2 ++ kv3 ++ kv4) (.inr z) = some v ∧ Row K F8 v rs
                  | none => valV (kv1 ++ kv2 ++ kv3 ++ kv4) (.inr z) = none := lk
                rw [el] at lk
                rw [show valV (kv1 ++ kv2 ++ kv3 ++ kv4) (.inr z) = none from lk]
                refine iteT ?_
                have ep : PT.lookup z = none := by
                  rcases hx.nm z r rfl with ⟨ks, hk⟩ | ho
                  · rcases pt_lt _ hk with e | e | e
                    · exact absurd e hj
                    · exact absurd e hcl
                    · have e : (LT.lookup z).isSome = true := e
                      rw [el] at e
                      cases e
                  · exact odd_pt z ho
                have := q _ k8.same
                rw [deed_no ep] at this
                exact this
              | some rs =>
                have lk : match LT.lookup z with
                  | some rs => ∃ v, valV (kv1 ++ kv2 ++ kv3 ++ kv4) (.inr z) = some v ∧ Row K F8 v rs
                  | none => valV (kv1 ++ kv2 ++ kv3 ++ kv4) (.inr z) = none := lk
                rw [el] at lk
                obtain ⟨v, ev, lr, vs, rfl, hl, hsp⟩ := (show ∃ v, valV (kv1 ++ kv2 ++ kv3 ++ kv4) (.inr z) = some v ∧ Row K F8 v rs from lk)
                obtain ⟨ks, ep, eks, eall⟩ := lt_look el hcl
                have dg : DGet F8 pd (.str z) (some (.ref lr)) := by
                  rw [← ev]
                  exact DGet.k (k := .inr z) k8.d
                rw [ev]
                refine iteF ⟨_, rfl, _, _, rfl, .inr ⟨_, k8.rest, rfl⟩, _, rfl, _, rfl, pd, _, rfl, dg, _, _, rfl, .inl ⟨_, hl, rfl⟩, rfl, _, rfl, ?_⟩
                have el2 : (!decide (V.int ((r.length : Nat) : Int) = V.int ((vs.length : Nat) : Int))) = !decide (r.length = rs.length) := by
                  rw [hsp.len]
                  exact congrArg Bool.not (decide_eq_decide.mpr ⟨fun h => by have h2 := V.int.inj h; omega, fun h => congrArg V.int (by omega)⟩)
                rw [el2]
                by_cases hlen : r.length = rs.length
                · rw [decide_eq_true hlen]
                  have ed : deedB (.str z :: r) = (r.zip rs).all fun p => numB p.1 p.2.1 p.2.2 := by
                    rw [deed_eq ep, decide_eq_true (by omega), Bool.true_and, eall]
                  rw [ed] at q
                  refine iteF ⟨_, rfl, _, rfl, _, rfl, pd, _, rfl, dg, pr, lr, r, vs, rfl, k8.rest, hl, fun D hD => ?_⟩
                  let bad : V × Int × Int → Bool := fun p => !numB p.1 p.2.1 p.2.2
                  refine lc_it (walk_zipM (n := r.length) rfl (by rw [hsp.len]; exact hlen)) (fun i H2 => Same F8 H2 ∧ H2 D = some (.lst ((((r.zip rs).take i).filter bad).map fun _ => V.int 1))) ⟨Same.add hD, upd_same⟩ (fun i H2 _ p => ⟨Same.tup p.1 k8.rest, p.1.seq hl⟩) ?_ ?_
                  · rintro i v H2 H3 hi ⟨p1, p2⟩ ⟨T, x, y, rfl, hT, rfl, hx', hy'⟩
                    obtain ⟨t, lo, up, rfl, hrs, hst⟩ := hsp.at_ hy'
                    have hx' : r[i]? = some x := hx'
                    have hst2 := Same.tup (Same.trans p1 (Same.add (o := .tup [x, .ref t]) hT)) hst
                    have s3 : Same F8 (upd H2 T (.tup [x, .ref t])) := Same.trans p1 (Same.add hT)
                    have okx : OkV K (upd H2 T (.tup [x, .ref t])) x := hxr (Same.trans k8.same s3) x (List.mem_of_getElem? hx')
                    have ez : (r.zip rs)[i]? = some (x, lo, up) := List.getElem?_zip_eq_some.mpr ⟨hx', hrs⟩
                    have p2' := Same.add (o := .tup [x, .ref t]) hT D _ p2
                    refine ⟨T, _, rfl, SqT.of upd_same, rfl, _, _, rfl, _, _, rfl, t, _, rfl, hst2, rfl, _, _, rfl, _, _, rfl, rfl, rfl, rfl, ?_⟩
                    refine ⟨_, rfl, _, rfl, _, rfl, x, lo, up, rfl, okx, _, rfl, ?_⟩
                    show if (!numB x lo up) = true then _ else _
                    cases c : numB x lo up with
                    | true =>
                      have eb : bad (x, lo, up) = false := congrArg Bool.not c
                      refine iteF ⟨s3, ?_⟩
                      rw [p2', take_succ' ez, List.filter_append, List.filter_cons, eb, if_neg (by decide), List.filter_nil, List.append_nil]
                    | false =>
                      have eb : bad (x, lo, up) = true := congrArg Bool.not c
                      refine iteT ⟨_, p2', line_lt ?_, Same.mut s3 hD, ?_⟩
                      · rw [List.length_map]
                        refine Nat.lt_of_le_of_lt (List.length_filter_le _ _) ?_
                        rw [List.length_take, List.length_zip]
                        have : rs.length ≤ 3 := by
                          rw [← eks]
                          exact pt_len _ (mem_look ep)
                        omega
                      · rw [upd_same, take_succ' ez, List.filter_append, List.filter_cons, eb, if_pos rfl, List.filter_nil, List.map_append]
                        rfl
                  · rintro H2 ⟨p1, p2⟩
                    have ezl : (r.zip rs).take r.length = r.zip rs := List.take_of_length_le (by rw [List.length_zip]; omega)
                    rw [ezl] at p2
                    refine ⟨line5 (by simp), fun pz hpz => ?_⟩
                    have s9 : Same H2 (upd H2 pz (.lst [])) := Same.add hpz
                    have e9 : (upd H2 pz (.lst [])) pz = some (.lst []) := upd_same
                    generalize upd H2 pz (.lst []) = H9 at s9 e9 ⊢
                    refine ⟨_, _, .lst (SqL.of (s9 _ _ p2)) (dp_ones _), .lst (SqL.of e9) .nil, ones_shaped _, by decide +kernel, ?_⟩
                    rw [ones_eqv, none_bad]
                    exact q _ (Same.trans k8.same (Same.trans p1 s9))
                · rw [decide_eq_false hlen]
                  refine iteT ?_
                  have := q _ k8.same
                  rw [deed_len ep (by omega)] at this
                  exact this
end
end Bm
set_option maxHeartbeats 1600000
namespace Bm
open PySem PySem.Spec PyProof.Rows L2
/-! tables of code objects stay -/
theorem tabs_same {T : List (Addr × Str)} {H H' : Hp} (h : LamX.Tabs T H) (e : Same H H') : LamX.Tabs T H' := h.ext e
theorem tabs_kp {K : PySem.W.Frag} {S : Sk} {T : List (Addr × Str)} {H H' : Hp} (h : LamX.Tabs T H) (k : Kp K S H H') : LamX.Tabs T H' := fun p hp => by
  obtain ⟨ps, h1, h2, h3⟩ := h p hp
  obtain ⟨l, hl⟩ := k.old.lst
  refine ⟨ps, k.but _ _ (fun z => by rw [z, hl] at h1; cases h1) h1, h2, fun pos cv hc => ?_⟩
  obtain ⟨c, e1, e2⟩ := h3 pos cv hc
  exact ⟨c, e1, k.but _ _ (fun z => by rw [z, hl] at e2; unfold LamX.CodeO at e2; cases e2) e2⟩
theorem extN_tup {K : PySem.W.Frag} {H H' : Hp} {a : Addr} {xs : List V} (e : LamX.ExtN H H') (h : SqT K H a xs) : SqT K H' a xs := by
  rcases h with (h | ⟨o, h⟩) | h
  · exact .inl (.inl (e _ _ h (fun _ z => by cases z)))
  · exact .inl (.inr ⟨o, e _ _ h (fun _ z => by cases z)⟩)
  · exact .inr h
theorem extN_lst {K : PySem.W.Frag} {H H' : Hp} {a : Addr} {xs : List V} (e : LamX.ExtN H H') (h : SqL K H a xs) : SqL K H' a xs := by
  rcases h with (h | ⟨o, h⟩) | h
  · exact .inl (.inl (e _ _ h (fun _ z => by cases z)))
  · exact .inl (.inr ⟨o, e _ _ h (fun _ z => by cases z)⟩)
  · exact .inr h
theorem extN_st {K : PySem.W.Frag} {H H' : Hp} {S : Sk} (e : LamX.ExtN H H') (h : St K H S) : St K H' S := by
  obtain ⟨h0, h1, a, m, c, h2, h3⟩ := h
  exact ⟨h0, extN_lst e h1, a, m, c, e _ _ h2 (fun _ z => by cases z), h3⟩
theorem extN_ok {K : PySem.W.Frag} {H H' : Hp} {xs : List V} (e : LamX.ExtN H H') (h : OkL K H xs) : OkL K H' xs := ⟨fun x hx => by
  cases h.ok x hx with
  | int i => exact .int i
  | bl b => exact .bl b
  | str x => exact .str x
  | unit h => exact .unit (extN_tup e h), h.gd, h.nm⟩
theorem sg_gd : ∀ k, k < 7 → PyData.strOk (nm SG k) = true := by decide +kernel
theorem sm_gd : ∀ k, k < 8 → PyData.strOk (nm SM k) = true := by decide +kernel
theorem tm_gd : ∀ k, k < 7 → PyData.strOk (nm TM k) = true := by decide +kernel
theorem vals_gd {d : De} (h : d.ok) : ∀ x ∈ d.vals, GdV x = true := by
  intro x hx
  cases d with
  | sgl k =>
    rw [List.mem_singleton.mp hx]
    exact sg_gd k (Nat.lt_of_lt_of_le (show k < 3 from h) (by decide))
  | reg k a =>
    simp only [De.vals, List.mem_cons, List.not_mem_nil, or_false] at hx
    rcases hx with rfl | rfl
    · exact sg_gd k h.2.1
    · rfl
  | sum k d a b =>
    simp only [De.vals, List.mem_cons, List.not_mem_nil, or_false] at hx
    rcases hx with rfl | rfl | rfl | rfl
    · exact sm_gd k h.1
    · rfl
    · rfl
    · rfl
  | jump k g f =>
    simp only [De.vals, List.mem_cons, List.not_mem_nil, or_false] at hx
    rcases hx with rfl | rfl | rfl | rfl
    · exact (by decide +kernel : GdV (.str "jump") = true)
    · exact tm_gd k h.1
    · rfl
    · rfl
  | _ =>
    simp only [De.vals, List.mem_cons, List.not_mem_nil, or_false] at hx
    first
      | (rcases hx with rfl | rfl | rfl | rfl <;> first | rfl | (show PyData.strOk _ = true; decide +kernel))
      | (rcases hx with rfl | rfl | rfl <;> first | rfl | (show PyData.strOk _ = true; decide +kernel))
theorem vals_okL {K : PySem.W.Frag} {H : Hp} {d : De} (h : d.ok) : OkL K H d.vals := ⟨vals_ok d, vals_gd h, fun z r e => .inl (deed_name (r := r) (by rw [← e]; exact deed_vals h))⟩
theorem vals_len (d : De) : d.vals.length ≤ 4 := by cases d <;> simp [De.vals]
theorem goes_in (d : De) (h : d.ok) : ∃ z r, d.vals = .str z :: r ∧ inV (.str z) [.str "jump", .str "call"] = d.goes := by
  cases d with
  | sgl k =>
    have : ∀ k, k < 7 → inV (.str (nm SG k)) [.str "jump", .str "call"] = false := by decide +kernel
    exact ⟨_, _, rfl, this k (Nat.lt_of_lt_of_le (show k < 3 from h) (by decide))⟩
  | reg k a =>
    have : ∀ k, k < 7 → inV (.str (nm SG k)) [.str "jump", .str "call"] = false := by decide +kernel
    exact ⟨_, _, rfl, this k h.2.1⟩
  | sum k a b c =>
    have : ∀ k, k < 8 → inV (.str (nm SM k)) [.str "jump", .str "call"] = false := by decide +kernel
    exact ⟨_, _, rfl, this k h.1⟩
  | plus a b c => exact ⟨_, _, rfl, (by decide +kernel : inV (.str "plus") [.str "jump", .str "call"] = false)⟩
  | set a b => exact ⟨_, _, rfl, (by decide +kernel : inV (.str "set") [.str "jump", .str "call"] = false)⟩
  | high a b => exact ⟨_, _, rfl, (by decide +kernel : inV (.str "high") [.str "jump", .str "call"] = false)⟩
  | load a b c => exact ⟨_, _, rfl, (by decide +kernel : inV (.str "load") [.str "jump", .str "call"] = false)⟩
  | store a b c => exact ⟨_, _, rfl, (by decide +kernel : inV (.str "store") [.str "jump", .str "call"] = false)⟩
  | jump k g f => exact ⟨_, _, rfl, (by decide +kernel : inV (.str "jump") [.str "jump", .str "call"] = true)⟩
  | call g f => exact ⟨_, _, rfl, (by decide +kernel : inV (.str "call") [.str "jump", .str "call"] = true)⟩
theorem reach_of {d : De} (h : d.goes = false) (p : Int) : d.reached p := by
  cases d with
  | jump k g f => cases h
  | call g f => cases h
  | _ => exact True.intro
/-- what is due of a deed at a place -/
def DueP (xs : List V) (pl : Int) (dv : V) : Prop := (deedB xs = false ∧ dv = .str "BadDeed") ∨ ∃ d : De, d.ok ∧ xs = d.vals ∧ ((¬ (0 ≤ pl ∧ pl ≤ 199) ∧ dv = .str "BadCount") ∨ (0 ≤ pl ∧ pl ≤ 199) ∧ ((¬ d.reached pl ∧ dv = .str "BadReach") ∨ (d.reached pl ∧ dv = .non)))
/-- a test by cases -/
theorem pt_ifx {X : Cx} {c a b : Expr} {pos : Pos} {tc ta tb : TT} (hc : L2.PT X c tc) (ha : L2.PT X a ta) (hb : L2.PT X b tb) : L2.PT X (.IfExp c a b pos) (fun σ H Q => tc σ H fun k H1 => if k = true then ta σ H1 Q else tb σ H1 Q) := by
  refine ⟨fun pn s0 σ G Q J w => ?_⟩
  refine isTrue_IfExp (thn (hc.run pn s0 σ G _ J w) fun d s1 ⟨G1, J1, w1⟩ => ?_)
  cases d
  · exact hb.run pn s1 σ G1 Q J1 w1
  · exact ha.run pn s1 σ G1 Q J1 w1
theorem passL {X : Cx} {A : Around} {outer : List Env} {s : Shared} {H : Hp} {E : XK} {sc : Scope} {f c : Addr} : Passes (L2.CX X.prog X.w) (LamX.lamCx X A outer s H E sc f c) E :=
  passes_call (X := LamX.lamCx X A outer s H E sc f c) (W := fun cls d _ H => E cls d H) (takes_of (X := LamX.lamCx X A outer s H E sc f c) rfl rfl rfl rfl) fun _ _ _ _ h => h
theorem six_at {x : Int} {r : Int} (h0 : 0 ≤ r) (h1 : r < 6) : ∃ p : Int, atI [V.int 0, .int 199, .int 200, .int (0 - 1), .int (10 ^ (20 : Int).toNat), .int x] r = some (.int p) := by
  obtain ⟨k, rfl, hk⟩ := nat_of h0 h1
  have hk : k < 6 := hk
  have : k = 0 ∨ k = 1 ∨ k = 2 ∨ k = 3 ∨ k = 4 ∨ k = 5 := by omega
  rcases this with rfl | rfl | rfl | rfl | rfl | rfl <;> exact ⟨_, atI_nat rfl⟩
section
variable {P : Program} {w : World} {K : PySem.W.Frag} {mg : Str → Option Value} {base : Heap} {f g : Addr} {fd fk : FuncData} {dvs : List V}
def spLaw (K : PySem.W.Frag) (Pt : Addr) : Sp := fun vs H Q _ => ∃ (a : Addr) (ns : List Int), vs = [.ref a] ∧ SqL K H a (ns.map V.int) ∧ ns.length ≤ 63 ∧ H Pt = some (.tbl #[]) ∧ ∀ H', Q (.bl true) H'
abbrev N_law : List Str := ["_law_script", "_law_state", "_law_turn", "_law_change", "_law_due", "_law_found", "_law_deed_here", "_law_place"]
theorem sc_law : FnScope ["_law_script", "_law_state", "_law_turn", "_law_change", "_law_due", "_law_found", "_law_deed_here", "_law_place"] ["_law_script"] (defScope s_law) := ⟨rfl, rfl, rfl, by decide +kernel, rfl, by decide +kernel, by decide +kernel⟩
theorem ok_law {c Pt : Addr} (F : FunD K "law" "law" (defArgs s_law) (defBody s_law) (defScope s_law) dvs [] (He.fAd K ("law", none)) fd) (hc : He.cT K ("law", none) = (c, Pt)) (FK : FunD K "_law_kind" "_law_kind" (defArgs s__law_kind) (defBody s__law_kind) (defScope s__law_kind) [] [] (He.ga K "_law_kind") fk)
    (TB : LamX.TabB base mg c Pt) (KF : ∀ x ∈ five, Kind1 K x) (g_MillError : mg "MillError" = some (.ref (He.ga K "MillError"))) (g_isinstance : mg "isinstance" = none) (g_ValueError : mg "ValueError" = none)
    (g_BadDeed : mg "BadDeed" = some (.ref (He.ga K "BadDeed"))) (g_BadReach : mg "BadReach" = some (.ref (He.ga K "BadReach"))) (g_NoDeed : mg "NoDeed" = some (.ref (He.ga K "NoDeed"))) (g_BadCount : mg "BadCount" = some (.ref (He.ga K "BadCount"))) (g_NoMend : mg "NoMend" = some (.ref (He.ga K "NoMend")))
    (g_BadImage : mg "BadImage" = some (.ref (He.ga K "BadImage"))) (g_BadGiven : mg "BadGiven" = some (.ref (He.ga K "BadGiven"))) (g_BadList : mg "BadList" = some (.ref (He.ga K "BadList"))) (g_BadRow : mg "BadRow" = some (.ref (He.ga K "BadRow")))
    (g__law_kind : mg "_law_kind" = some (.ref (He.ga K "_law_kind")))
    (k__law_start : Kn P w K mg base CX0 1 "_law_start" ["_law_script"] [] (spStart K)) (k__law_drawn : KnDr P w K mg base) (k__law_deed : Kn P w K mg base CX0 3 "_law_deed" ["_law_state", "_law_place", "_law_most"] [] (spLDeed K))
    (k__law_other : Kn P w K mg base CX0 2 "_law_other" ["_law_state", "_law_deed_here"] [] (spOther K)) (k__law_is_deed : Kn P w K mg base CX0 2 "_law_is_deed" ["_law_deed_here"] [] (spLook K)) (k_packed : Kn P w K mg base (L2.CX P w) 4 "packed" ["deed", "place"] [] (spPacked K oddL))
    (g_range : mg "range" = none) (g_max : mg "max" = none) (g_min : mg "min" = none) (g_tuple : mg "tuple" = none) : FnOk P w K mg base CX0 7 (He.fAd K ("law", none)) fd ["_law_script"] (spLaw K Pt) := by
  obtain ⟨oc, od, dV, kV, doc, pm, an, cdv, ct, osl, rfl, lk, hcd, _, _⟩ := F.ex
  obtain ⟨c', rfl⟩ := He.codeIn_ref hcd
  have ec : He.codeOf K ("law", none) = c' := He.codeOf_eq lk rfl
  have ec2 : c = c' := by
    rw [← ec]
    exact (congrArg Prod.fst hc).symm
  subst ec2
  have kkp := FK.kp
  have kbn : L2.Binds K fk ["_law_work"] [] := FK.bindsN fun _ _ _ _ _ _ us hl => match us, hl with | [_], _ => rfl
  obtain ⟨oc2, od2, dV2, kV2, doc2, pm2, an2, cdv2, ct2, osl2, rfl, klk, khc, _, _⟩ := FK.ex
  refine fn_of lk hcd sc_law (fun vs H Q E h => ?_) (fun A outer s H vs Q E hr h => ?_)
  · obtain ⟨a, ns, rfl, _⟩ := h
    rfl
  · obtain ⟨a, ns, rfl, hS, h63, hP, q⟩ := h
    let X0 : Cx := (cxOf CX0 P w K mg base N_law "law" (defScope s_law) (He.fAd K ("law", none)) (.ref c) A outer s H E).nox
    let TL : List (Addr × Str) := [(Pt, X0.env.qual ++ "<lambda>")]
    have hmT : (Pt, X0.env.qual ++ "<lambda>") ∈ TL := List.mem_cons_self ..
    have huT : ∀ p ∈ TL, p.1 = Pt → p.2 = X0.env.qual ++ "<lambda>" := fun p hp _ => by rw [List.mem_singleton.mp hp]
    have hG : LamX.GivesTo X0 N__law_kind "_law_kind" (defScope s__law_kind) (He.ga K "_law_kind") cdv2 (defBody s__law_kind) "_law_work" (X0.env.qual ++ "<lambda>") (TKind K) :=
      kind_gives (X := X0) KF g_MillError g_isinstance g_ValueError g_BadDeed g_BadReach g_NoDeed g_BadCount g_NoMend g_BadImage g_BadGiven g_BadList g_BadRow
    have T0 : LamX.Tabs TL H := fun p hp => by
      rw [List.mem_singleton.mp hp]
      exact LamX.TabS.nil hP
    refine ⟨_, PSs.nox (pss_cons (ps_set (i := 1) sc_law.nd rfl (Or.inl rfl) (pk k__law_start hr (by decide) rfl pass0 (pa_cons (pv 0) pa_nil)))
      (pss_cons (ps_for PassesOwn.never rfl (pi_range1 rfl g_range (pa_cons pe_int pa_nil)) (pg_name (i := 2) sc_law.nd rfl (Or.inl rfl))
      (pss_cons (ps_set (i := 7) sc_law.nd rfl (Or.inr rfl) (pe_ix ix_list (pe_lst (pa_cons pe_int (pa_cons pe_int (pa_cons pe_int (pa_cons (pe_op op_sub pe_int pe_int) (pa_cons (pe_op op_pow pe_int pe_int) (pa_cons (pk k__law_drawn hr (by decide) rfl pass0 (pa_cons (pv 1) (pa_cons pe_int pa_nil))) pa_nil))))))) (pk k__law_drawn hr (by decide) rfl pass0 (pa_cons (pv 1) (pa_cons pe_int pa_nil))) (fun _ _ => rfl)))
      (pss_cons (ps_set (i := 6) sc_law.nd rfl (Or.inr rfl) (pk k__law_deed hr (by decide) rfl pass0 (pa_cons (pv 1) (pa_cons (pe_callB (call_max2 rfl) rfl g_max (by decide +kernel) (pa_cons pe_int (pa_cons (pe_callB (call_min2 rfl) rfl g_min (by decide +kernel) (pa_cons pe_int (pa_cons (pv 7) pa_nil))) pa_nil))) (pa_cons pe_int pa_nil)))))
      (Evl.pss_cut (ps_if (pt_cmpR op_eq (pk k__law_drawn hr (by decide) rfl pass0 (pa_cons (pv 1) (pa_cons pe_int pa_nil))) pe_int (nomark _)) (pss_one (ps_set (i := 6) sc_law.nd rfl (Or.inr rfl) (pe_tup (pa_cons pe_str (pa_cons (pe_op op_sub (pe_op op_sub pe_int pe_int) (pk k__law_drawn hr (by decide) rfl pass0 (pa_cons (pv 1) (pa_cons pe_int pa_nil)))) (pa_cons (pe_cmpR op_eq (pk k__law_drawn hr (by decide) rfl pass0 (pa_cons (pv 1) (pa_cons pe_int pa_nil))) pe_int (nomark _)) pa_nil)))))) pss_nil)
      (pss_cons (ps_for PassesOwn.never rfl (pi_range1 rfl g_range (pa_cons (pk k__law_drawn hr (by decide) rfl pass0 (pa_cons (pv 1) (pa_cons pe_int pa_nil))) pa_nil)) (pg_name (i := 3) sc_law.nd rfl (Or.inl rfl))
      (pss_one (ps_set (i := 6) sc_law.nd rfl (Or.inr rfl) (pk k__law_other hr (by decide) rfl pass0 (pa_cons (pv 1) (pa_cons (pv 6) pa_nil))))))
      (pss_cons (ps_set (i := 4) sc_law.nd rfl (Or.inl rfl) pe_str)
      (Evl.pss_cut (ps_if (pt_val (pk k__law_is_deed hr (by decide) rfl pass0 (pa_cons (pv 6) pa_nil))) (pss_cons (ps_set (i := 4) sc_law.nd rfl (Or.inl rfl) (pe_ifExp (pt_not (pt_chain op_le op_lt pe_int (pv 7) pe_int)) pe_str pe_non))
      (pss_one (ps_if (PW.pt (pw_and (pt_cmpR op_isN (pv 4) pe_non (nomark _)) (pw_and (pt_cmpR op_in_seq (pe_ix ix_tup (pv 6) pe_int (fun _ _ => rfl)) (pe_tup (pa_cons pe_str (pa_cons pe_str pa_nil))) rfl) (pw_and1 (pt_not (pt_val (pe_ix ix_tup (pv 6) (pe_un un_neg pe_int) (fun _ _ => rfl)))))))) (pss_one (ps_set (i := 4) sc_law.nd rfl (Or.inl rfl) (pe_ifExp (pt_chain op_le op_lt (pe_op op_sub pe_int pe_int) (pe_op op_sub (pe_op op_sub (pe_ix ix_tup (pv 6) (pe_un un_neg pe_int) (fun _ _ => rfl)) (pv 7)) pe_int) pe_int) pe_non pe_str))) pss_nil))) pss_nil)
      (pss_cons (ps_set (i := 5) sc_law.nd rfl (Or.inl rfl) (LamX.pe_lamcall (T := TL) (TT := TKind K) rfl g__law_kind kkp klk khc kbn sc__law_kind rfl (Or.inl rfl) hG TB rfl hmT huT hr (LamX.lamS_by (show LamX.lamSB (defScope s_law) _ = true by decide +kernel)) rfl (fun _ _ _ _ _ => rfl) (fun A2 outer2 s2 H2 E2 f2 c2 hr2 => (pk k_packed hr2 (by decide) rfl passL (pa_cons (pe_var (i := 6) rfl (Or.inr (Or.inr rfl))) (pa_cons (pe_var (i := 7) rfl (Or.inr (Or.inr rfl))) pa_nil))))))
      (pss_one (ps_if (pt_ifx (pt_cmpR op_notN (pv 4) pe_non (nomark _)) (pt_cmpR op_ne (pv 5) (pv 4) (nomark _)) (pt_not (pt_val (pe_callB call_isi rfl g_isinstance (by decide +kernel) (pa_cons (pv 5) (pa_cons (pe_bltn (v := .ty "tuple") rfl g_tuple (by decide +kernel) rfl) pa_nil)))))) (pss_one (ps_ret pe_bl)) pss_nil))))))))))
      (pss_one (ps_ret pe_bl)))), ?_⟩
    refine ⟨_, rfl, a, ns, rfl, hS, h63, fun st H1 hst0 s1 hst => ?_⟩
    obtain ⟨S, hSk⟩ : ∃ S : Sk, S = ⟨st, a, ns⟩ := ⟨_, rfl⟩
    rw [← hSk] at hst
    have est : V.ref st = V.ref S.st := by rw [hSk]
    refine ⟨_, rfl, by decide, by decide, for_range (n := 8) (fun i σ H2 => ∃ v2 v3 v4 v5 v6 v7 : Option V, σ = [some (.ref a), some (.ref S.st), v2, v3, v4, v5, v6, v7] ∧ St K H2 S ∧ LamX.Tabs TL H2) ⟨none, none, none, none, none, none, by rw [← est]; rfl, hst, tabs_same T0 s1⟩ ?_ ?_⟩
    · rintro i σ H2 hi ⟨v2, v3, v4, v5, v6, v7, rfl, hst2, ht2⟩
      refine ⟨_, _, rfl, rfl, _, _, rfl, rfl, ⟨by decide, by decide, by decide⟩, _, rfl, S, 200, rfl, hst2, by decide, by decide, fun rp Ha _ _ ka => ?_⟩
      refine ⟨line5 (by simp), fun l hl => ?_⟩
      obtain ⟨ls, hls⟩ := ka.st.lst
      have nl : l ≠ S.st := Ne.symm (ne_of_none hls hl)
      have sb : Same Ha (upd Ha l (.lst [.int 0, .int 199, .int 200, .int (0 - 1), .int (10 ^ (20 : Int).toNat), .int rp])) := Same.add hl
      have eb : (upd Ha l (.lst [.int 0, .int 199, .int 200, .int (0 - 1), .int (10 ^ (20 : Int).toNat), .int rp])) l = some (.lst [.int 0, .int 199, .int 200, .int (0 - 1), .int (10 ^ (20 : Int).toNat), .int rp]) := upd_same
      generalize upd Ha l (.lst [.int 0, .int 199, .int 200, .int (0 - 1), .int (10 ^ (20 : Int).toNat), .int rp]) = Hb at sb eb ⊢
      have kb := ka.same sb
      refine ⟨_, rfl, S, 6, rfl, kb.st, by decide, by decide, fun r Hc r0 r1 kc => ?_⟩
      obtain ⟨pl, hpl⟩ := six_at (x := rp) r0 r1
      refine ⟨_, _, _, _, rfl, rfl, kc.lst nl (SqL.of eb), hpl, ?_⟩
      refine ⟨_, rfl, _, rfl, _, _, rfl, _, _, rfl, S, _, 199, rfl, kc.st, by decide, by decide, fun d q1 Hd hok hre _ kd ed => ?_⟩
      have kd' := (kb.trans kc).trans kd
      have td := tabs_kp ht2 kd'
      refine ⟨fun σ H' => ∃ (p2 : Addr) (xs : List V), σ = [some (.ref a), some (.ref S.st), some (.int (0 + (i : Int))), v3, v4, v5, some (.ref p2), some (.int pl)] ∧ St K H' S ∧ LamX.Tabs TL H' ∧ SqT K H' p2 xs ∧ OkL K H' xs ∧ xs.length ≤ 4, ?_, ?_⟩
      · refine ⟨_, rfl, S, 6, rfl, kd.st, by decide, by decide, fun r6 He r60 r61 ke => ⟨rfl, _, rfl, ?_⟩⟩
        by_cases h6 : r6 = 0
        · rw [decide_eq_true (congrArg V.int h6)]
          refine iteT ⟨_, _, rfl, rfl, _, rfl, S, 9, rfl, ke.st, by decide, by decide, fun r9 Hf _ _ kf => ⟨_, _, rfl, rfl, _, rfl, S, 2, rfl, kf.st, by decide, by decide, fun r2 Hg _ _ kg => ⟨rfl, line5 (by simp), fun p3 hp3 => ?_⟩⟩⟩
          have kk := ((kd'.trans ke).trans kf).trans kg
          refine ⟨p3, _, rfl, kk.st.same (Same.add hp3), tabs_same (tabs_kp ht2 kk) (Same.add hp3), SqT.of upd_same, okL_of (fun x hx => ?_) (fun x hx => ?_) (fun z e => ?_), by simp⟩
          · simp only [List.mem_cons, List.not_mem_nil, or_false] at hx
            rcases hx with rfl | rfl | rfl
            · exact .str _
            · exact .int _
            · exact .bl _
          · simp only [List.mem_cons, List.not_mem_nil, or_false] at hx
            rcases hx with rfl | rfl | rfl
            · exact (by decide +kernel : GdV (.str "call") = true)
            · rfl
            · rfl
          · have e2 : ("call" : Str) = z := V.str.inj (Option.some.inj e)
            rw [← e2]
            exact .inl ⟨_, mem_look look_call⟩
        · rw [decide_eq_false (fun z => h6 (V.int.inj z))]
          exact iteF ⟨q1, d.vals, rfl, ke.st, tabs_kp td ke, ke.tup (SqT.of ed), (vals_okL hok), vals_len d⟩
      · rintro σ' H' ⟨p2, xs, rfl, hst3, ht3, hS3, hx3, hl3⟩
        refine ⟨_, rfl, S, 3, rfl, hst3, by decide, by decide, fun r3 Hr r30 r31 kr => ?_⟩
        refine ⟨_, rfl, by omega, by omega, for_range (n := r3.toNat) (fun j σ H' => ∃ (w3 : Option V) (p2 : Addr) (xs : List V), σ = [some (.ref a), some (.ref S.st), some (.int (0 + (i : Int))), w3, v4, v5, some (.ref p2), some (.int pl)] ∧ St K H' S ∧ LamX.Tabs TL H' ∧ SqT K H' p2 xs ∧ OkL K H' xs ∧ xs.length ≤ 4 + j) ⟨v3, p2, xs, rfl, kr.st, tabs_kp ht3 kr, kr.tup hS3, hx3.kp kr, by omega⟩ ?_ ?_⟩
        · rintro j σ H' hj ⟨w3, p2, xs, rfl, hst4, ht4, hS4, hx4, hl4⟩
          refine ⟨_, rfl, _, rfl, S, p2, xs, rfl, hst4, hS4, hx4, by omega, fun b ys Hs ks hsb okb hlb => ?_⟩
          exact ⟨_, b, ys, rfl, ks.st, tabs_kp ht4 ks, hsb, okb, by omega⟩
        · clear hx3 hS3 hst3 ht3 hl3 kr
          rintro σ H' ⟨w3, p2, xs, rfl, hst4, ht4, hS4, hx4, _⟩
          refine ⟨fun σ H' => ∃ dv : V, σ = [some (.ref a), some (.ref S.st), some (.int (0 + (i : Int))), w3, some dv, v5, some (.ref p2), some (.int pl)] ∧ St K H' S ∧ LamX.Tabs TL H' ∧ SqT K H' p2 xs ∧ OkL K H' xs ∧ DueP xs pl dv, ?_, ?_⟩
          · refine ⟨_, rfl, p2, xs, rfl, hS4, hx4, fun Hq se => ⟨_, rfl, ?_⟩⟩
            have st5 := hst4.same se
            have t5 := tabs_same ht4 se
            have S5 := Same.tup se hS4
            have x5 := hx4.same se
            cases hb : deedB xs with
            | false => exact iteF ⟨_, rfl, st5, t5, S5, x5, .inl ⟨hb, rfl⟩⟩
            | true =>
              obtain ⟨d2, ok2, rfl⟩ := deed_of hb
              refine iteT ⟨_, rfl, _, _, rfl, rfl, _, rfl, ?_⟩
              have bc : ∀ hn : ¬ (0 ≤ pl ∧ pl ≤ 199), DueP d2.vals pl (.str "BadCount") := fun hn => .inr ⟨d2, ok2, rfl, .inl ⟨hn, rfl⟩⟩
              by_cases p0 : 0 ≤ pl
              · rw [decide_eq_true p0]
                refine iteT ⟨_, _, rfl, rfl, _, rfl, ?_⟩
                by_cases p1 : pl < 200
                · rw [decide_eq_true p1]
                  have hp : 0 ≤ pl ∧ pl ≤ 199 := ⟨p0, by omega⟩
                  refine iteF ⟨_, rfl, rfl, _, rfl, ?_⟩
                  rw [decide_eq_true (rfl : V.non = V.non)]
                  obtain ⟨z, rr, hv, hgo⟩ := goes_in d2 ok2
                  have hSz := S5
                  rw [hv] at hSz
                  refine iteT ⟨_, rfl, _, _, _, _, rfl, rfl, hSz, at0, line5 (by simp), fun pj hpj => ?_⟩
                  have sj : Same Hq (upd Hq pj (.tup [.str "jump", .str "call"])) := Same.add hpj
                  have ej : (upd Hq pj (.tup [.str "jump", .str "call"])) pj = some (.tup [.str "jump", .str "call"]) := upd_same
                  generalize upd Hq pj (.tup [.str "jump", .str "call"]) = Hr2 at sj ej ⊢
                  refine ⟨_, _, rfl, .inr (SqT.of ej), rfl, rfl, _, rfl, ?_⟩
                  show if inV (.str z) [.str "jump", .str "call"] = true then _ else _
                  rw [hgo]
                  have st6 := st5.same sj
                  have t6 := tabs_same t5 sj
                  have S6 := Same.tup sj S5
                  have x6 := x5.same sj
                  clear hv hSz hgo
                  cases hg : d2.goes with
                  | false => exact iteF ⟨_, rfl, st6, t6, S6, x6, .inr ⟨d2, ok2, rfl, .inr ⟨hp, .inr ⟨reach_of hg pl, rfl⟩⟩⟩⟩
                  | true =>
                    refine iteT ?_
                    cases d2 with
                    | jump k g far =>
                      have hS9 : SqT K Hr2 p2 [.str "jump", .str (nm TM k), .int g, .bl far] := S6
                      have m1 : atI ([.str "jump", .str (nm TM k), .int g, .bl far] : List V) (-1) = some (.bl far) := rfl
                      have m2 : atI ([.str "jump", .str (nm TM k), .int g, .bl far] : List V) (-2) = some (.int g) := rfl
                      refine ⟨_, rfl, _, rfl, _, _, _, _, rfl, rfl, hS9, m1, _, rfl, ?_⟩
                      cases far with
                      | true => exact iteF ⟨_, rfl, st6, t6, S6, x6, .inr ⟨_, ok2, rfl, .inr ⟨hp, .inr ⟨True.intro, rfl⟩⟩⟩⟩
                      | false =>
                        refine iteT ⟨_, _, rfl, rfl, _, rfl, _, rfl, _, _, _, _, rfl, rfl, hS9, m2, _, rfl, _, _, rfl, rfl, _, _, rfl, rfl, _, _, rfl, rfl, _, rfl, ?_⟩
                        have far_ : ¬ near g pl → DueP [.str "jump", .str (nm TM k), .int g, .bl false] pl (.str "BadReach") := fun h => .inr ⟨_, ok2, rfl, .inr ⟨hp, .inl ⟨h, rfl⟩⟩⟩
                        by_cases c1 : 0 - 16 ≤ g - pl - 1
                        · rw [decide_eq_true c1]
                          refine iteT ⟨_, _, rfl, rfl, _, rfl, ?_⟩
                          by_cases c2 : g - pl - 1 < 16
                          · rw [decide_eq_true c2]
                            exact iteT ⟨_, rfl, st6, t6, S6, x6, .inr ⟨_, ok2, rfl, .inr ⟨hp, .inr ⟨(show near g pl from ⟨by omega, by omega⟩), rfl⟩⟩⟩⟩
                          · rw [decide_eq_false c2]
                            exact iteF ⟨_, rfl, st6, t6, S6, x6, far_ fun n => c2 (by have := n.2; omega)⟩
                        · rw [decide_eq_false c1]
                          exact iteF ⟨_, rfl, iteF ⟨_, rfl, st6, t6, S6, x6, far_ fun n => c1 (by have := n.1; omega)⟩⟩
                    | call g far =>
                      have hS9 : SqT K Hr2 p2 [.str "call", .int g, .bl far] := S6
                      have m1 : atI ([.str "call", .int g, .bl far] : List V) (-1) = some (.bl far) := rfl
                      have m2 : atI ([.str "call", .int g, .bl far] : List V) (-2) = some (.int g) := rfl
                      refine ⟨_, rfl, _, rfl, _, _, _, _, rfl, rfl, hS9, m1, _, rfl, ?_⟩
                      cases far with
                      | true => exact iteF ⟨_, rfl, st6, t6, S6, x6, .inr ⟨_, ok2, rfl, .inr ⟨hp, .inr ⟨True.intro, rfl⟩⟩⟩⟩
                      | false =>
                        refine iteT ⟨_, _, rfl, rfl, _, rfl, _, rfl, _, _, _, _, rfl, rfl, hS9, m2, _, rfl, _, _, rfl, rfl, _, _, rfl, rfl, _, _, rfl, rfl, _, rfl, ?_⟩
                        have far_ : ¬ near g pl → DueP [.str "call", .int g, .bl false] pl (.str "BadReach") := fun h => .inr ⟨_, ok2, rfl, .inr ⟨hp, .inl ⟨h, rfl⟩⟩⟩
                        by_cases c1 : 0 - 16 ≤ g - pl - 1
                        · rw [decide_eq_true c1]
                          refine iteT ⟨_, _, rfl, rfl, _, rfl, ?_⟩
                          by_cases c2 : g - pl - 1 < 16
                          · rw [decide_eq_true c2]
                            exact iteT ⟨_, rfl, st6, t6, S6, x6, .inr ⟨_, ok2, rfl, .inr ⟨hp, .inr ⟨(show near g pl from ⟨by omega, by omega⟩), rfl⟩⟩⟩⟩
                          · rw [decide_eq_false c2]
                            exact iteF ⟨_, rfl, st6, t6, S6, x6, far_ fun n => c2 (by have := n.2; omega)⟩
                        · rw [decide_eq_false c1]
                          exact iteF ⟨_, rfl, iteF ⟨_, rfl, st6, t6, S6, x6, far_ fun n => c1 (by have := n.1; omega)⟩⟩
                    | _ => cases hg
                · rw [decide_eq_false p1]
                  exact iteT ⟨_, rfl, rfl, _, rfl, iteF ⟨_, rfl, st5, t5, S5, x5, bc (by omega)⟩⟩
              · rw [decide_eq_false p0]
                exact iteF ⟨_, rfl, iteT ⟨_, rfl, rfl, _, rfl, iteF ⟨_, rfl, st5, t5, S5, x5, bc (by omega)⟩⟩⟩
          · rintro σ H' ⟨dv, rfl, hst5, ht5, hS5, hx5, hdue⟩
            refine ⟨ht5, fun Hm eN tm => ?_⟩
            have st7 := extN_st eN hst5
            have S7 := extN_tup eN hS5
            have x7 := extN_ok eN hx5
            have m1 : ("BadDeed" : Str) ∈ five := by decide +kernel
            have m2 : ("BadReach" : Str) ∈ five := by decide +kernel
            have m3 : ("BadCount" : Str) ∈ five := by decide +kernel
            have no : ∀ x : Str, (!decide (V.str x = V.non)) = true := fun x => congrArg Bool.not (decide_eq_false (by simp))
            have eq_ : ∀ x : Str, (!decide (V.str x = V.str x)) = false := fun x => congrArg Bool.not (decide_eq_true rfl)
            rcases hdue with ⟨hb, rfl⟩ | ⟨d, hok, rfl, hd⟩
            · refine ⟨_, rfl, _, rfl, p2, xs, pl, rfl, S7, x7.ok, x7.nm, .inl ⟨hb, fun Hn sn => ⟨"BadDeed", m1, rfl, rfl, fun Hz sz => ?_⟩⟩⟩
              refine ⟨_, rfl, rfl, _, rfl, ?_⟩
              show if (!decide (V.str "BadDeed" = V.non)) = true then _ else _
              rw [no]
              refine iteT ⟨_, rfl, _, rfl, rfl, _, rfl, ?_⟩
              rw [eq_]
              exact iteF ⟨_, _, _, _, _, _, rfl, st7.same (Same.trans sn sz), tabs_same tm (Same.trans sn sz)⟩
            · refine ⟨_, rfl, _, rfl, p2, d.vals, pl, rfl, S7, x7.ok, x7.nm, .inr ⟨d, hok, rfl, fun hn Hn sn => ?_, fun hp hr Hn sn => ?_, fun hp hr qa Hn sn eq => ?_⟩⟩
              · rcases hd with ⟨_, rfl⟩ | ⟨hp, _⟩
                · refine ⟨"BadCount", m3, rfl, rfl, fun Hz sz => ?_⟩
                  refine ⟨_, rfl, rfl, _, rfl, ?_⟩
                  show if (!decide (V.str "BadCount" = V.non)) = true then _ else _
                  rw [no]
                  refine iteT ⟨_, rfl, _, rfl, rfl, _, rfl, ?_⟩
                  rw [eq_]
                  exact iteF ⟨_, _, _, _, _, _, rfl, st7.same (Same.trans sn sz), tabs_same tm (Same.trans sn sz)⟩
                · exact absurd hp hn
              · rcases hd with ⟨hn, _⟩ | ⟨_, ⟨_, rfl⟩ | ⟨h, _⟩⟩
                · exact absurd hp hn
                · refine ⟨"BadReach", m2, rfl, rfl, fun Hz sz => ?_⟩
                  refine ⟨_, rfl, rfl, _, rfl, ?_⟩
                  show if (!decide (V.str "BadReach" = V.non)) = true then _ else _
                  rw [no]
                  refine iteT ⟨_, rfl, _, rfl, rfl, _, rfl, ?_⟩
                  rw [eq_]
                  exact iteF ⟨_, _, _, _, _, _, rfl, st7.same (Same.trans sn sz), tabs_same tm (Same.trans sn sz)⟩
                · exact absurd h hr
              · rcases hd with ⟨hn, _⟩ | ⟨_, ⟨h, _⟩ | ⟨_, rfl⟩⟩
                · exact absurd hp hn
                · exact absurd hr h
                · refine ⟨_, rfl, rfl, _, rfl, ?_⟩
                  show if (!decide (V.non = V.non)) = true then _ else _
                  rw [show (!decide (V.non = V.non)) = false from congrArg Bool.not (decide_eq_true rfl)]
                  refine iteF ⟨_, rfl, _, _, _, _, _, rfl, .ty _, Knd.ty (.tup (SqT.of eq)), kit_ty (r := true) (by decide +kernel), _, rfl, ?_⟩
                  exact iteF ⟨_, _, _, _, _, _, rfl, st7.same sn, tabs_same tm sn⟩
    · rintro σ H2 ⟨v2, v3, v4, v5, v6, v7, rfl, hst2, _⟩
      exact q H2
end
end Bm
set_option maxHeartbeats 0
namespace Bm
open PySem PySem.Spec PyProof.Rows L2
def tfL : List He.Defn := [("law", none)]
def odd : List Str := ["Add", "", "none", "0", "zero", "always", "Zero"]
def exB (K : PySem.W.Frag) : Bool := conB odd K && kindB K
def LIM : Nat := 6
abbrev hk : PySem.W.Hook := He.hookX LIM faL fnL tsL tfL exB
def ob (s : PySem.W.SharedT) : He.AlX := He.obsX LIM faL fnL tsL tfL exB (HandSHeadRun.getT s)
theorem ob_eq (s : PySem.W.SharedT) : ob s = hk.obs s.abs := He.obsX_eq (HandSHeadRun.getT_eq s)
theorem run_f (w : World) : HandSHeadRun.RunEq R (PySem.W.view R.prog [LAWI]) hk ob 6000 looseL (w.withFollow "special-get-raises" false) := by
  intro os
  kernel_rfl
theorem run_t (w : World) : HandSHeadRun.RunEq R (PySem.W.view R.prog [LAWI]) hk ob 6000 looseL (w.withFollow "special-get-raises" true) := by
  intro os
  kernel_rfl
theorem run (w : World) : HandSHeadRun.RunEq R (PySem.W.view R.prog [LAWI]) hk ob 6000 looseL w :=
  PySem.W.byRow2 "special-get-raises" (P := fun w => HandSHeadRun.RunEq R (PySem.W.view R.prog [LAWI]) hk ob 6000 looseL w) run_f run_t w
end Bm
set_option maxHeartbeats 800000
namespace Bm
open PySem PySem.Spec PyProof.Rows L2
section
variable {P : Program} {w : World} {K : PySem.W.Frag} {mg : Str → Option Value} {base : Heap}
/-- a def of no defaults -/
theorem kn_of {CX : CXT} {k : Nat} {x : Str} {ps : List Str} {sp : Sp} {st : Stmt} {fd : FuncData} (g : mg x = some (.ref (He.ga K x))) (F : FunD K x x (defArgs st) (defBody st) (defScope st) [] [] (He.ga K x) fd) (ok : FnOk P w K mg base CX k (He.ga K x) fd ps sp)
    (h : ∀ (kV doc pm : Value) (an : Option Addr) (cdv ct : Value) (us : List Value), us.length = ps.length → bindArgs (PySem.W.fnOf x x (defArgs st) (defBody st) (defScope st) .none kV doc pm an cdv ct) ⟨us, []⟩ = pure (ps.zip us)) : Kn P w K mg base CX k x ps [] sp :=
  ⟨_, fd, [], g, F.kp, ok, F.bindsN h, .nil⟩
/-- a def with defaults, of which the first j are written over -/
theorem kn_dfl {CX : CXT} {k : Nat} {x : Str} {ps : List Str} {sp : Sp} {st : Stmt} {fd : FuncData} {dvs : List V} (n j : Nat) (g : mg x = some (.ref (He.ga K x))) (F : FunD K x x (defArgs st) (defBody st) (defScope st) dvs [] (He.ga K x) fd) (ok : FnOk P w K mg base CX k (He.ga K x) fd ps sp)
    (hd : dvs ≠ []) (hn : n + (dvs.length - j) = ps.length) (h : ∀ (T : Addr) (kV doc pm : Value) (an : Option Addr) (cdv ct : Value) (us its : List Value), us.length = n → its.length = dvs.length →
      ∃ k, bindArgs (PySem.W.fnOf x x (defArgs st) (defBody st) (defScope st) (.ref T) kV doc pm an cdv ct) ⟨us, []⟩ = seqItems? (.ref T) >>= k ∧ k (some its.toArray) = pure (ps.zip (us ++ its.drop j))) : Kn P w K mg base CX k x ps (dvs.drop j) sp := by
  obtain ⟨ds, h1, h2⟩ := F.binds1 n j hd hn h
  exact ⟨_, fd, ds, g, F.kp, ok, h2, h1⟩
end
theorem ex1_of {K : PySem.W.Frag} {mg : Str → Option Value} {x : Str} (g : mg x = some (.ref (He.ga K x))) (h : PySem.W.excIn K (He.ga K x) He.veBase "ValueError.__new__" = true ∧ PySem.W.keepIn K (.ref (He.ga K x)) = true ∧ PySem.W.subIn K (.ref (He.ga K x)) (.type "BaseException") = some true ∧ PySem.W.typeIn K (.ref (He.ga K x)) = some (.type "type")) : Ex1 K mg x :=
  ⟨g, h.1, h.2.1, h.2.2.1, h.2.2.2⟩
theorem facts {P : Program} {w : World} {K : PySem.W.Frag} {h h' : Heap} {mg : Str → Option Value} {f : Addr} (KX : K.In h) (G : h.Ns mainGlobals mg) (hfa : mg ("law" : Str) = some (.ref f)) (c : He.SaysX faL fnL tsL tfL exB w h' K) :
    ∃ fd : FuncData, (∀ (s : Shared) (v : Value), BindsTo s fd ⟨[v], []⟩ [("_law_script", v)]) ∧ ∀ base : Heap, K.In base → base.Ns mainGlobals mg → LamX.TabB base mg (He.cT K ("law", none)).1 (He.cT K ("law", none)).2 → FnOk P w K mg base CX0 7 f fd ["_law_script"] (spLaw K (He.cT K ("law", none)).2) := by
  obtain ⟨cB, kB⟩ := He.ba (show (conB odd K && kindB K) = true from c.more)
  have hC : Con w K mg oddL := con_of (show conB oddL K = true from cB) (He.glo_ok KX G (c.t.d.fact 11 (f := .glo "SINGLES") rfl)) (He.glo_ok KX G (c.t.d.fact 12 (f := .glo "SUMS") rfl)) (He.glo_ok KX G (c.t.d.fact 13 (f := .glo "TIMES") rfl)) (He.glo_ok KX G (c.t.d.fact 14 (f := .glo "PARTS") rfl)) (He.glo_ok KX G (c.t.d.fact 15 (f := .glo "SPANS") rfl)) (c.t.tab 0 (t := (fun K => He.ga K "PARTS", _)) rfl) (c.t.tab 1 (t := (fun K => He.ga K "SPANS", _)) rfl)
  obtain ⟨fd1, F1⟩ := (c.t.d.def_ 8 (d := d_fields) rfl)
  obtain ⟨fd2, F2⟩ := (c.t.d.def_ 5 (d := d_going_words) rfl)
  obtain ⟨fdr, Fr⟩ := (c.t.d.def_ 6 (d := d_is_reached) rfl)
  obtain ⟨fd3, F3⟩ := (c.t.d.def_ 7 (d := d_only_word) rfl)
  obtain ⟨fd4, F4⟩ := (c.t.d.def_ 4 (d := d_words_of) rfl)
  obtain ⟨fd5, F5⟩ := (c.t.d.def_ 0 (d := d_is_number) rfl)
  obtain ⟨fd6, F6⟩ := (c.t.d.def_ 1 (d := d_is_part) rfl)
  obtain ⟨fd7, F7⟩ := (c.t.d.def_ 2 (d := d_is_deed) rfl)
  obtain ⟨fd8, F8⟩ := (c.t.d.def_ 3 (d := d_packed) rfl)
  obtain ⟨fd10, F10⟩ := (c.t.d.def_ 9 (d := d__law_start) rfl)
  obtain ⟨fd11, F11⟩ := (c.t.d.def_ 10 (d := d__law_drawn) rfl)
  obtain ⟨fd12, F12⟩ := (c.t.d.def_ 12 (d := d__law_kind) rfl)
  obtain ⟨fd13, F13⟩ := (c.t.d.def_ 13 (d := d__law_plain) rfl)
  obtain ⟨fd14, F14⟩ := (c.t.d.def_ 14 (d := d__law_pairs) rfl)
  obtain ⟨fd15, F15⟩ := (c.t.d.def_ 15 (d := d__law_times) rfl)
  obtain ⟨fd16, F16⟩ := (c.t.d.def_ 16 (d := d__law_number) rfl)
  obtain ⟨fd17, F17⟩ := (c.t.d.def_ 17 (d := d__law_deed) rfl)
  obtain ⟨fd18, F18⟩ := (c.t.d.def_ 18 (d := d__law_other) rfl)
  obtain ⟨fd19, F19⟩ := (c.t.d.def_ 19 (d := d__law_whole) rfl)
  obtain ⟨fd20, F20⟩ := (c.t.d.def_ 20 (d := d__law_is_deed) rfl)
  obtain ⟨fd, F⟩ := (c.t.d.def_ 21 (d := d_law) rfl)
  have e := hfa.symm.trans (He.glo_ok KX G (c.t.d.fact 36 (f := .glo "law") rfl))
  cases e
  have b := FunD.bindsA (ps := ["_law_script"]) F fun _ _ _ _ _ _ us hl => match us, hl with | [_], _ => rfl
  refine ⟨fd, fun s v => b s [v] rfl, fun base hb1 hb2 TB => ?_⟩
  have kF0 : KnF P w K mg base [] := kn_dfl (st := s_fields) 3 1 (He.glo_ok KX G (c.t.d.fact 23 (f := .glo "fields") rfl)) F1 (ok_fields F1) (by intro z; cases z) rfl (fun _ _ _ _ _ _ _ us its h1 h2 => match us, its, h1, h2 with | [_, _, _], [_], _, _ => ⟨_, rfl, rfl⟩)
  have kF1 : KnF P w K mg base [.int 0] := kn_dfl (st := s_fields) 2 0 (He.glo_ok KX G (c.t.d.fact 23 (f := .glo "fields") rfl)) F1 (ok_fields F1) (by intro z; cases z) rfl (fun _ _ _ _ _ _ _ us its h1 h2 => match us, its, h1, h2 with | [_, _], [_], _, _ => ⟨_, rfl, rfl⟩)
  have kRe : KnRe P w K mg base := kn_of (st := s_is_reached) (He.glo_ok KX G (c.t.d.fact 21 (f := .glo "is_reached") rfl)) Fr (ok_reached Fr) (fun _ _ _ _ _ _ us hl => match us, hl with | [_, _], _ => rfl)
  have kG : KnG P w K mg base := kn_of (st := s_going_words) (He.glo_ok KX G (c.t.d.fact 20 (f := .glo "going_words") rfl)) F2 (ok_going F2 kF1 kRe) (fun _ _ _ _ _ _ us hl => match us, hl with | [_, _, _, _, _], _ => rfl)
  have kO : KnO P w K mg base := kn_of (st := s_only_word) (He.glo_ok KX G (c.t.d.fact 22 (f := .glo "only_word") rfl)) F3 (ok_only F3 hC kF0 kF1) (fun _ _ _ _ _ _ us hl => match us, hl with | [_], _ => rfl)
  have kW : KnW P w K mg base := kn_of (st := s_words_of) (He.glo_ok KX G (c.t.d.fact 19 (f := .glo "words_of") rfl)) F4 (ok_words_of F4 hC kG kO) (fun _ _ _ _ _ _ us hl => match us, hl with | [_, _], _ => rfl)
  have kN : KnN P w K mg base := kn_of (st := s_is_number) (He.glo_ok KX G (c.t.d.fact 10 (f := .glo "is_number") rfl)) F5 (ok_num F5 (He.free_ok KX G (c.t.d.fact 43 (f := .free "isinstance") rfl)) (He.free_ok KX G (c.t.d.fact 40 (f := .free "bool") rfl)) (He.free_ok KX G (c.t.d.fact 42 (f := .free "int") rfl))) (fun _ _ _ _ _ _ us hl => match us, hl with | [_, _, _], _ => rfl)
  have kP : KnP P w K mg base := kn_of (st := s_is_part) (He.glo_ok KX G (c.t.d.fact 16 (f := .glo "is_part") rfl)) F6 (ok_part F6 hC (He.free_ok KX G (c.t.d.fact 43 (f := .free "isinstance") rfl)) (He.free_ok KX G (c.t.d.fact 40 (f := .free "bool") rfl)) kN) (fun _ _ _ _ _ _ us hl => match us, hl with | [_, _], _ => rfl)
  have kD : KnD P w K mg base oddL := kn_of (st := s_is_deed) (He.glo_ok KX G (c.t.d.fact 17 (f := .glo "is_deed") rfl)) F7 (ok_deed F7 hC (fun z hz => odd_pt z hz) (He.free_ok KX G (c.t.d.fact 43 (f := .free "isinstance") rfl)) (He.free_ok KX G (c.t.d.fact 51 (f := .free "tuple") rfl)) (He.free_ok KX G (c.t.d.fact 49 (f := .free "str") rfl)) (He.free_ok KX G (c.t.d.fact 44 (f := .free "len") rfl)) (He.free_ok KX G (c.t.d.fact 39 (f := .free "all") rfl)) (He.free_ok KX G (c.t.d.fact 52 (f := .free "zip") rfl)) kP) (fun _ _ _ _ _ _ us hl => match us, hl with | [_], _ => rfl)
  have okP := ok_packed (P := P) (base := base) F8 kD kN kW (ex1_of (He.glo_ok KX G (c.t.d.fact 1 (f := .glo "BadDeed") rfl)) (He.exc_ok (c.t.d.fact 53 (f := .exc "BadDeed") rfl))) (ex1_of (He.glo_ok KX G (c.t.d.fact 4 (f := .glo "BadCount") rfl)) (He.exc_ok (c.t.d.fact 56 (f := .exc "BadCount") rfl))) (ex1_of (He.glo_ok KX G (c.t.d.fact 2 (f := .glo "BadReach") rfl)) (He.exc_ok (c.t.d.fact 54 (f := .exc "BadReach") rfl))) (He.int_ok KX G (c.t.d.fact 37 (f := .int "IMAGE_MOST" 200) rfl))
  have kK0 : Kn P w K mg base (L2.CX P w) 4 "packed" ["deed", "place"] [] (spPacked K oddL) := kn_dfl (st := s_packed) 2 1 (He.glo_ok KX G (c.t.d.fact 18 (f := .glo "packed") rfl)) F8 okP (by intro z; cases z) rfl (fun _ _ _ _ _ _ _ us its h1 h2 => match us, its, h1, h2 with | [_, _], [_], _, _ => ⟨_, rfl, rfl⟩)
  have kS := kn_of (P := P) (w := w) (base := base) (st := s__law_start) (He.glo_ok KX G (c.t.d.fact 24 (f := .glo "_law_start") rfl)) F10 (ok_start F10) (fun _ _ _ _ _ _ us hl => match us, hl with | [_], _ => rfl)
  have kDr : KnDr P w K mg base := kn_of (st := s__law_drawn) (He.glo_ok KX G (c.t.d.fact 25 (f := .glo "_law_drawn") rfl)) F11 (ok_drawn F11 (He.free_ok KX G (c.t.d.fact 44 (f := .free "len") rfl))) (fun _ _ _ _ _ _ us hl => match us, hl with | [_, _], _ => rfl)
  have k1 : KnNm P w K mg base "_law_plain" SG := kn_of (st := s__law_plain) (He.glo_ok KX G (c.t.d.fact 28 (f := .glo "_law_plain") rfl)) F13 (ok_plain F13) (fun _ _ _ _ _ _ us hl => match us, hl with | [], _ => rfl)
  have k2 : KnNm P w K mg base "_law_pairs" SM := kn_of (st := s__law_pairs) (He.glo_ok KX G (c.t.d.fact 29 (f := .glo "_law_pairs") rfl)) F14 (ok_pairs F14) (fun _ _ _ _ _ _ us hl => match us, hl with | [], _ => rfl)
  have k3 : KnNm P w K mg base "_law_times" TM := kn_of (st := s__law_times) (He.glo_ok KX G (c.t.d.fact 30 (f := .glo "_law_times") rfl)) F15 (ok_times F15) (fun _ _ _ _ _ _ us hl => match us, hl with | [], _ => rfl)
  have kNu : KnNum P w K mg base := kn_of (st := s__law_number) (He.glo_ok KX G (c.t.d.fact 31 (f := .glo "_law_number") rfl)) F16 (ok_number F16 kDr (He.free_ok KX G (c.t.d.fact 47 (f := .free "min") rfl))) (fun _ _ _ _ _ _ us hl => match us, hl with | [_, _, _], _ => rfl)
  have kLD := kn_of (P := P) (w := w) (base := base) (st := s__law_deed) (He.glo_ok KX G (c.t.d.fact 32 (f := .glo "_law_deed") rfl)) F17 (ok_ldeed F17 kDr kNu k1 k2 k3 (He.free_ok KX G (c.t.d.fact 47 (f := .free "min") rfl)) (He.free_ok KX G (c.t.d.fact 46 (f := .free "max") rfl))) (fun _ _ _ _ _ _ us hl => match us, hl with | [_, _, _], _ => rfl)
  have kLO := kn_of (P := P) (w := w) (base := base) (st := s__law_other) (He.glo_ok KX G (c.t.d.fact 33 (f := .glo "_law_other") rfl)) F18 (ok_other F18 kDr k1 k2 (He.free_ok KX G (c.t.d.fact 44 (f := .free "len") rfl))) (fun _ _ _ _ _ _ us hl => match us, hl with | [_, _], _ => rfl)
  have kWh : KnWh P w K mg base := kn_of (st := s__law_whole) (He.glo_ok KX G (c.t.d.fact 34 (f := .glo "_law_whole") rfl)) F19 (ok_whole F19 (He.free_ok KX G (c.t.d.fact 43 (f := .free "isinstance") rfl)) (He.free_ok KX G (c.t.d.fact 40 (f := .free "bool") rfl)) (He.free_ok KX G (c.t.d.fact 42 (f := .free "int") rfl))) (fun _ _ _ _ _ _ us hl => match us, hl with | [_, _, _], _ => rfl)
  have kLk := kn_of (P := P) (w := w) (base := base) (st := s__law_is_deed) (He.glo_ok KX G (c.t.d.fact 35 (f := .glo "_law_is_deed") rfl)) F20 (ok_look F20 kWh k2 k3 (He.free_ok KX G (c.t.d.fact 43 (f := .free "isinstance") rfl)) (He.free_ok KX G (c.t.d.fact 49 (f := .free "str") rfl)) (He.free_ok KX G (c.t.d.fact 40 (f := .free "bool") rfl)) (He.free_ok KX G (c.t.d.fact 42 (f := .free "int") rfl)) (He.free_ok KX G (c.t.d.fact 44 (f := .free "len") rfl)) (He.free_ok KX G (c.t.d.fact 52 (f := .free "zip") rfl)) (He.free_ok KX G (c.t.d.fact 41 (f := .free "dict") rfl))) (fun _ _ _ _ _ _ us hl => match us, hl with | [_], _ => rfl)
  exact ok_law F rfl F12 TB (kind_of kB) (He.glo_ok KX G (c.t.d.fact 0 (f := .glo "MillError") rfl)) (He.free_ok KX G (c.t.d.fact 43 (f := .free "isinstance") rfl)) (He.free_ok KX G (c.t.d.fact 38 (f := .free "ValueError") rfl)) (He.glo_ok KX G (c.t.d.fact 1 (f := .glo "BadDeed") rfl)) (He.glo_ok KX G (c.t.d.fact 2 (f := .glo "BadReach") rfl)) (He.glo_ok KX G (c.t.d.fact 3 (f := .glo "NoDeed") rfl)) (He.glo_ok KX G (c.t.d.fact 4 (f := .glo "BadCount") rfl)) (He.glo_ok KX G (c.t.d.fact 5 (f := .glo "NoMend") rfl)) (He.glo_ok KX G (c.t.d.fact 6 (f := .glo "BadImage") rfl)) (He.glo_ok KX G (c.t.d.fact 7 (f := .glo "BadGiven") rfl)) (He.glo_ok KX G (c.t.d.fact 8 (f := .glo "BadList") rfl)) (He.glo_ok KX G (c.t.d.fact 9 (f := .glo "BadRow") rfl)) (He.glo_ok KX G (c.t.d.fact 27 (f := .glo "_law_kind") rfl)) kS kDr kLD kLO kLk kK0 (He.free_ok KX G (c.t.d.fact 48 (f := .free "range") rfl)) (He.free_ok KX G (c.t.d.fact 46 (f := .free "max") rfl)) (He.free_ok KX G (c.t.d.fact 47 (f := .free "min") rfl)) (He.free_ok KX G (c.t.d.fact 51 (f := .free "tuple") rfl))
end Bm
open PySem PySem.W PySem.Calls PyProof.Rows
set_option maxRecDepth 100000 in
set_option maxHeartbeats 0 in
theorem PySem.Challenge.cw_bitmill_k01_deeds_refused_anywhere_holds : PySem.Challenge.rw_bitmill_k01_deeds_refused_anywhere.Holds := by
  w_on; o_law
  refine HandSHeadRun.head_any (r := OpenLaw.row PySem.Challenge.rw_bitmill_k01_deeds_refused_anywhere) (q := view (OpenLaw.row PySem.Challenge.rw_bitmill_k01_deeds_refused_anywhere).prog [Bm.LAWI]) (H := Bm.hk) (ob := Bm.ob) (M := 6000) (loose := Bm.looseL) (d := HandSHeadRun.topDef (OpenLaw.row PySem.Challenge.rw_bitmill_k01_deeds_refused_anywhere).prog Bm.LAWI) (kwd := []) Bm.ob_eq
    (by kernel_rfl) (fun s => by kernel_rfl) Bm.run (by kernel_rfl) (by kernel_rfl) (by kernel_rfl) (by rfl) (by first | assumption | decide +kernel) (by decide +kernel) ⟨rfl, rfl, rfl, rfl, rfl, by decide +kernel⟩ ?hw ?hc
  case hw => w_witness2
  case hc =>
    refine LamX.walk_ofTsE (l := PySem.Challenge.rw_bitmill_k01_deeds_refused_anywhere) (n := 63) (k := 7) (x := "_law_script") (CX := fun _ => L2.CX0) rfl (by decide) (by kernel_rfl) ⟨rfl, by decide, by decide⟩ ?F (fun _ _ _ _ _ z => z)
    intro w mg fa h Y G hmg0
    obtain ⟨K, KX, c⟩ := Y
    have hmg : mg ("law" : PySem.Str) = some (.ref fa) := by
      have e : (HandSHeadRun.topDef (OpenLaw.row PySem.Challenge.rw_bitmill_k01_deeds_refused_anywhere).prog Bm.LAWI).name = ("law" : PySem.Str) := by kernel_rfl
      rw [← e]
      exact hmg0
    obtain ⟨fd, hb, hF⟩ := Bm.facts (P := (PySem.Challenge.rw_bitmill_k01_deeds_refused_anywhere).prog) (w := w) KX G hmg c
    have m0 : (("law", none) : He.Defn) ∈ Bm.tfL := List.mem_cons_self ..
    refine ⟨K, KX, fd, [He.cT K ("law", none)], Bm.spLaw K (He.cT K ("law", none)).2, fun p hp => ?_, fun p hp => ?_, fun p hp => ?_, hb, fun H a ns hl _ hT hS => ⟨a, ns, rfl, hS, hl, hT _ (List.mem_cons_self ..), fun _ => rfl⟩, fun base hb1 hb2 hTB => hF base hb1 hb2 (hTB _ (List.mem_cons_self ..))⟩
    · rw [List.mem_singleton.mp hp]
      exact c.empty _ m0
    · rw [List.mem_singleton.mp hp]
      exact c.out _ m0
    · rw [List.mem_singleton.mp hp]
      exact PySem.W.codeHd_of_K KX (c.hd _ m0)
