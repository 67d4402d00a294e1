import PyProof.Rows.All
import Wide.All
import OpenK.AllK
import Wide.FinOn
import PyProof.Rows.MatchSeqLen
import HandS.Base
import HandS.Call
import HandS.List
import HandS.ForMost
import HandS.Exc
import HandS.TryOnly
import HandS.Defaults
import HandS.Conv
import HandS.Strs
import HandS.IsInst
import HandS.Zip
import HandS.Deep
import HandS.TupAny
import HandS.Evl
import HandS.Text
import KE.BitLaws
import HandS.HeadHook1
import HandS.HeadHook2
import HandS.HeadHook3
import HandS.HeadHook4
import HandS.Walk
import KE.KStateDown
import Lean
import HandS.Codes
import HandS.Lambda
import HandS.Head0
import HandS.Head1
import HandS.Head2
import HandS.HeadEnd
import HandS.HeadWalk
import HandS.ExcOwn
import KE.KTupSum
import HandS.Style
import PySem.Challenge.RW_bitmill_k02_words_of_deeds
set_option Elab.async false
set_option linter.all false
set_option maxRecDepth 100000
set_option maxHeartbeats 200000
namespace Bm
open PySem PySem.Spec PyProof.Rows L2
abbrev PK := Option (List (Nat × V)) → Hp → Prop
abbrev TPt := V → Hp → PK → Prop
def Bnd (X : Cx) : List (Str × Value) → List (Nat × V) → Prop := Paired fun p q => (X.N[q.1]? = some p.1 ∧ Loc X.env.scope p.1 ∧ (X.fn p.1 = true ∨ X.env.scope.names.lookup p.1 = some .local)) ∧ RelV q.2 p.2
theorem Bnd.app {X : Cx} : ∀ {a c : List (Str × Value)} {b d : List (Nat × V)}, Bnd X a b → Bnd X c d → Bnd X (a ++ c) (b ++ d)
  | [], _, [], _, _, h => h
  | _ :: _, _, _ :: _, _, .cons r t, h => .cons r (Bnd.app t h)
def PRel (X : Cx) : Option (List (Str × Value)) → Option (List (Nat × V)) → Prop
  | none, none => True
  | some b, some c => Bnd X b c
  | _, _ => False
def PtP (X : Cx) (pins : List (Addr × Obj)) (σ : L2.St) (k : PK) (r : Option (List (Str × Value))) (s' : Shared) : Prop := ∃ ro H', Inv X pins σ H' s' ∧ PRel X r ro ∧ k ro H'
structure PPt (X : Cx) (p : Pattern) (t : TPt) : Prop where
  run : ∀ (pins : List (Addr × Obj)) (s : Shared) (σ : L2.St) (H : Hp) (v : V) (u : Value) (k : PK), Inv X pins σ H s → RelV v u → t v H k →
    wpAny (model X.prog X.w) X.A (matchPattern p X.env u) (PtP X pins σ k) X.xe s
structure PPs (X : Cx) (ps : List Pattern) (t : List V → Hp → PK → Prop) : Prop where
  run : ∀ (pins : List (Addr × Obj)) (s : Shared) (σ : L2.St) (H : Hp) (vs : List V) (us : List Value) (k : PK), Inv X pins σ H s → Vals vs us → t vs H k →
    wpAny (model X.prog X.w) X.A (matchEach ps X.env us) (PtP X pins σ k) X.xe s
section
variable {X : Cx}
/-- a written text (or number): equal or not -/
def tPv (c : V) : TPt := fun v H k => scal v c = true ∧ k (if v = c then some [] else none) H
theorem pp_val {e : Expr} {c : V} {pos : Pos} (he : PE X e (tC c)) : PPt X (.MatchValue e pos) (tPv c) := by
  refine ⟨fun pins s σ H v u k I r h => ?_⟩
  obtain ⟨h1, h2⟩ := h
  refine wpAny_matchPattern_Value (thn (he.run pins s σ H (fun x H1 => x = c ∧ H1 = H) I ⟨rfl, rfl⟩) fun x s1 ⟨y, H1, I1, r1, e1, e2⟩ => ?_)
  subst e1 e2
  refine thn (op_eq pins s1 σ H1 v y u x (fun z H2 => z = .bl (decide (v = y)) ∧ H2 = H1) I1 r r1 ⟨h1, rfl, rfl⟩) fun z s2 ⟨w, H2, I2, r2, e1, e2⟩ => ?_
  subst e1 e2
  cases r2
  refine wpAny_truthy_bool ?_
  by_cases q : v = y
  · rw [decide_eq_true q]
    rw [if_pos q] at h2
    exact ⟨some [], H2, I2, .nil, h2⟩
  · rw [decide_eq_false q]
    rw [if_neg q] at h2
    exact ⟨none, H2, I2, True.intro, h2⟩
/-- a name -/
def tPn (i : Nat) : TPt := fun v H k => k (some [(i, v)]) H
theorem pp_name {i : Nat} {x : Str} {pos : Pos} (hi : X.N[i]? = some x) (hx : Loc X.env.scope x) (hf : X.fn x = true ∨ X.env.scope.names.lookup x = some .local := by first | exact .inl rfl | exact .inr rfl) : PPt X (.MatchAs none (some x) pos) (tPn i) := by
  refine ⟨fun pins s σ H v u k I r h => ?_⟩
  exact wpAny_matchPattern_Capture ⟨some [(i, v)], H, I, .cons ⟨⟨hi, hx, hf⟩, r⟩ .nil, h⟩
/-- whatever it is -/
def tPw : TPt := fun _ H k => k (some []) H
theorem pp_wild {pos : Pos} : PPt X (.MatchAs none none pos) tPw := ⟨fun pins s σ H v u k I r h => wpAny_matchPattern_Capture ⟨some [], H, I, .nil, h⟩⟩
def tPnil : List V → Hp → PK → Prop := fun vs H k => vs = [] ∧ k (some []) H
def tPcons (t : TPt) (u : List V → Hp → PK → Prop) : List V → Hp → PK → Prop := fun vs H k => ∃ v r, vs = v :: r ∧ t v H fun a H1 => match a with
  | none => k none H1
  | some b => u r H1 fun c H2 => match c with
    | none => k none H2
    | some d => k (some (b ++ d)) H2
theorem pps_nil : PPs X [] tPnil := ⟨fun pins s σ H vs us k I r h => by
  obtain ⟨e, h⟩ := h
  subst e
  cases r
  exact wpAny_matchEach_nil ⟨some [], H, I, .nil, h⟩⟩
theorem pps_cons {p : Pattern} {ps : List Pattern} {t : TPt} {u : List V → Hp → PK → Prop} (h1 : PPt X p t) (h2 : PPs X ps u) (hp : p.isStar = false := by rfl) : PPs X (p :: ps) (tPcons t u) := by
  refine ⟨fun pins s σ H vs us k I r h => ?_⟩
  obtain ⟨v, vr, e, h⟩ := h
  subst e
  cases r with
  | cons r rr =>
    refine wpAny_matchEach_cons (thn (h1.run pins s σ H v _ _ I r h) fun a s1 ⟨ro, H1, I1, rel, q⟩ => ?_) hp
    cases a with
    | none =>
      cases ro with
      | none => exact ⟨none, H1, I1, True.intro, q⟩
      | some _ => exact rel.elim
    | some bs =>
      cases ro with
      | none => exact rel.elim
      | some b =>
        refine thn (h2.run pins s1 σ H1 vr _ _ I1 rr q) fun c s2 ⟨rc, H2, I2, rel2, q2⟩ => ?_
        cases c with
        | none =>
          cases rc with
          | none => exact ⟨none, H2, I2, True.intro, q2⟩
          | some _ => exact rel2.elim
        | some cs =>
          cases rc with
          | none => exact rel2.elim
          | some d => exact ⟨some (b ++ d), H2, I2, Bnd.app rel rel2, q2⟩
/-- (p, q, ..) of a tuple -/
def tPseq (K : PySem.W.Frag) (n : Nat) (t : List V → Hp → PK → Prop) : TPt := fun v H k => ∃ a xs, v = .ref a ∧ SqT K H a xs ∧ if xs.length = n then t xs H k else k none H
theorem line63 {n : Nat} (h : n ≤ sizeLine) : (n : Int) < 2 ^ 63 := by
  have e : sizeLine = 16777216 := sizeLine_eq
  omega
theorem pp_seq {ps : List Pattern} {pos : Pos} {n : Nat} {t : List V → Hp → PK → Prop} (hc : X.calm = true) (h : PPs X ps t) (hn : ps.length = n := by rfl) (hstar : ps.findIdx? (·.isStar) = none := by rfl)
    (hwild : (ps.all fun p => p.isWildcard || (p.isStar && p.names.isEmpty)) = false := by rfl) : PPt X (.MatchSequence ps pos) (tPseq X.K n t) := by
  refine ⟨fun pins s σ H v u k I r hw => ?_⟩
  obtain ⟨a, xs, e, hq, hw⟩ := hw
  subst e hn
  cases r
  obtain ⟨its, rv, ht, hz⟩ := I.tuple hq
  have hl := rv.length
  have fit : ((its.toArray.size : Nat) : Int) < 2 ^ 63 := by
    rw [List.size_toArray, ← hl]
    exact line63 hz
  by_cases q : xs.length = ps.length
  · rw [if_pos q] at hw
    have en : its.toArray.size = ps.length := by rw [List.size_toArray, ← hl, q]
    refine matchSeq_tuple_hit ht fit en ?_ hstar hwild
    rw [← en]
    refine unpackItems_tuple (I.ok.hd hc) ht fun h' hx => ?_
    have I1 := I.tok (s.toks + 1 + 1)
    have I2 := I1.kept (h' := h') (t' := s.toks + 1 + 1) fun b o e => hx b o (Nat.ne_of_lt (Heap.lt_size e)) e
    exact h.run pins _ σ H xs _ k I2 (by simpa using rv) hw
  · rw [if_neg q] at hw
    refine matchSeq_tuple_miss ht fit (fun z => q ?_) ⟨none, H, I.tok _, True.intro, hw⟩ hstar hwild
    rw [← z, List.size_toArray, hl]
/-- either of two or more -/
def tPfirst (t : TPt) (u : TPt) : TPt := fun v H k => t v H fun a H1 => match a with
  | some b => k (some b) H1
  | none => u v H1 k
structure PPf (X : Cx) (ps : List Pattern) (t : TPt) : Prop where
  run : ∀ (pins : List (Addr × Obj)) (s : Shared) (σ : L2.St) (H : Hp) (v : V) (u : Value) (k : PK), Inv X pins σ H s → RelV v u → t v H k →
    wpAny (model X.prog X.w) X.A (matchFirst ps X.env u) (PtP X pins σ k) X.xe s
theorem ppf_nil : PPf X [] (fun _ H k => k none H) := ⟨fun pins s σ H v u k I r h => wpAny_matchFirst_nil ⟨none, H, I, True.intro, h⟩⟩
theorem ppf_cons {p : Pattern} {ps : List Pattern} {t u : TPt} (h1 : PPt X p t) (h2 : PPf X ps u) : PPf X (p :: ps) (tPfirst t u) := by
  refine ⟨fun pins s σ H v w k I r h => ?_⟩
  refine wpAny_matchFirst_cons (thn (h1.run pins s σ H v w _ I r h) fun a s1 ⟨ro, H1, I1, rel, q⟩ => ?_)
  cases a with
  | none =>
    cases ro with
    | none => exact h2.run pins s1 σ H1 v w k I1 r q
    | some _ => exact rel.elim
  | some bs =>
    cases ro with
    | none => exact rel.elim
    | some b => exact ⟨some b, H1, I1, rel, q⟩
/-- texts in a row, with no names: "jump" | "call" -/
def tPor (t : TPt) : TPt := fun v H k => t v H fun a H1 => match a with
  | some _ => k (some []) H1
  | none => k none H1
theorem pp_or {ps : List Pattern} {pos : Pos} {t : TPt} (h : PPf X ps t) (hn : namesOfAll (ps.take 1) = [] := by rfl) : PPt X (.MatchOr ps pos) (tPor t) := by
  refine ⟨fun pins s σ H v u k I r hw => ?_⟩
  refine wpAny_matchPattern_Or (thn (h.run pins s σ H v u _ I r hw) fun a s1 ⟨ro, H1, I1, rel, q⟩ => ?_)
  cases a with
  | none =>
    cases ro with
    | none => exact ⟨none, H1, I1, True.intro, q⟩
    | some _ => exact rel.elim
  | some bs =>
    cases ro with
    | none => exact rel.elim
    | some b =>
      show PtP X pins σ k (some ((namesOfAll (ps.take 1)).filterMap fun n => (bs.lookup n).map (n, ·))) s1
      rw [hn]
      exact ⟨some [], H1, I1, .nil, q⟩
/-- the slots that the names of a pattern get, one after another -/
def setAll : List (Nat × V) → L2.St → L2.St
  | [], σ => σ
  | (i, v) :: r, σ => setAll r (σ.set i (some v))
theorem bind_all {M : Model} {E : Value → Shared → Prop} {pins : List (Addr × Obj)} {H : Hp} {A : Around} (hN : X.N.Nodup) {bs : List (Str × Value)} {cs : List (Nat × V)} (B : Bnd X bs cs) : ∀ {σ : L2.St} {s : Shared} {Q : Unit → Shared → Prop}, Inv X pins σ H s →
    (∀ s', Inv X pins (setAll cs σ) H s' → Q () s') → wpAny M A (assignInOrder (bs.map fun (n, _) => bindName X.env n) (bs.map (·.2))) Q E s := by
  induction bs generalizing cs with
  | nil =>
    intro σ s Q I h
    cases B
    exact wpAny_assignInOrder_none (h s I)
  | cons p bs ih =>
    intro σ s Q I h
    cases cs with
    | nil => cases B
    | cons q cs =>
      have B1 : ((X.N[q.1]? = some p.1 ∧ Loc X.env.scope p.1 ∧ (X.fn p.1 = true ∨ X.env.scope.names.lookup p.1 = some .local)) ∧ RelV q.2 p.2) ∧ Bnd X bs cs := by
        cases B with
        | cons r t => exact ⟨r, t⟩
      obtain ⟨⟨⟨hi, hx, hf⟩, r⟩, t⟩ := B1
      refine wpAny_assignInOrder_more (wpAny_bindName (store_ok I hN hi hx r (fun s' I' => ?_) hf))
      exact ih t I' h
abbrev TCs := V → TS
structure PCs (X : Cx) (cs : List MatchCase) (t : TCs) : Prop where
  run : ∀ (first : Bool) (pins : List (Addr × Obj)) (s : Shared) (σ : L2.St) (H : Hp) (v : V) (u : Value) (D : Ends), Inv X pins σ H s → RelV v u → t v D σ H →
    wpAny (model X.prog X.w) X.A (matchCases cs X.env u first) (SP X pins D) X.xe s
def tCsNil : TCs := fun _ D σ H => D.nx σ H
theorem pcs_nil : PCs X [] tCsNil := ⟨fun first pins s σ H v u D I r h => wpAny_matchCases_nil ⟨σ, H, I, h⟩⟩
def tCs (p : TPt) (b : TS) (t : TCs) : TCs := fun v D σ H => p v H fun a H1 => match a with
  | none => t v D σ H1
  | some cs => b D (setAll cs σ) H1
theorem pcs_cons {p : Pattern} {body : List Stmt} {rest : List MatchCase} {tp : TPt} {b : TS} {t : TCs} (hN : X.N.Nodup) (hp : PPt X p tp) (hb : PSs X body b) (hr : PCs X rest t) : PCs X (⟨p, none, body⟩ :: rest) (tCs tp b t) := by
  refine ⟨fun first pins s σ H v u D I r h => ?_⟩
  refine wpAny_matchCases_cons (thn (hp.run pins s σ H v u _ I r h) fun a s1 ⟨ro, H1, I1, rel, q⟩ => ?_)
  cases a with
  | none =>
    cases ro with
    | none => exact hr.run false pins s1 σ H1 v u D I1 r q
    | some _ => exact rel.elim
  | some bs =>
    cases ro with
    | none => exact rel.elim
    | some cs => exact bind_all hN rel I1 fun s2 I2 => hb.run pins s2 _ H1 D I2 q
def tMatch (te : TE) (t : TCs) : TS := fun D σ H => te σ H fun v H1 => t v D σ H1
theorem ps_match {e : Expr} {cs : List MatchCase} {pos : Pos} {te : TE} {t : TCs} (he : PE X e te) (h : PCs X cs t) : PS X (.Match e cs pos) (tMatch te t) := by
  refine ⟨fun pins s σ H D I hw => ?_⟩
  exact wpAny_Match (thn (he.run pins s σ H _ I hw) fun u s1 ⟨v, H1, I1, r1, q1⟩ => h.run true pins s1 σ H1 v u D I1 r1 q1)
end
end Bm
set_option maxHeartbeats 400000
namespace Bm
open PySem PySem.Spec PyProof.Rows L2
/-! a def known by its name, the values that stand for what a call leaves out -/
structure Kn (P : Program) (w : World) (K : PySem.W.Frag) (mg : Str → Option Value) (base : Heap) (CX : CXT) (k : Nat) (x : Str) (ps : List Str) (dvs : List V) (sp : Sp) : Prop where
  ex : ∃ (f : Addr) (fd : FuncData) (ds : List Value), mg x = some (.ref f) ∧ PySem.W.keepIn K (.ref f) = true ∧ FnOk P w K mg base CX k f fd ps sp ∧ Binds K fd ps ds ∧ Vals dvs ds
section
variable {X : Cx} {CX : CXT} {k j : Nat} {x : Str} {ps : List Str} {dvs : List V} {sp : Sp} {E : XK} {p pos : Pos} {e : Expr} {es : List Expr} {t : TA}
theorem pk (n : Kn X.prog X.w X.K X.mg X.base CX k x ps dvs sp) (hr : Room j X.A) (hj : k ≤ j) (hg : Gl X x) (hx : Passes CX X E) (ha : PA X (e :: es) t) (hdb : (x == ("__debug__" : Str)) = false := by decide)
    (star1 : starEach (e :: es) X.env = (false, eval e X.env) :: starEach es X.env := by rfl) (star2 : (backTo pos (starEach es X.env)).any (·.1) = false := by rfl) : PE X (.Call (.Name x p) (e :: es) [] pos) (tCall sp dvs E t) := by
  obtain ⟨f, fd, ds, h1, h2, h3, h4, h5⟩ := n.ex
  exact pe_call h3 (hr.mono hj) hg h1 h2 h4 h5 hx ha (by first | exact hdb | exact star1 | exact star2) (by first | exact hdb | exact star1 | exact star2) (by first | exact hdb | exact star1 | exact star2)
theorem pk0 (n : Kn X.prog X.w X.K X.mg X.base CX k x ps dvs sp) (hr : Room j X.A) (hj : k ≤ j) (hg : Gl X x) (hx : Passes CX X E) (hdb : (x == ("__debug__" : Str)) = false := by decide) :
    PE X (.Call (.Name x p) [] [] pos) (tCall sp dvs E tNil) := by
  obtain ⟨f, fd, ds, h1, h2, h3, h4, h5⟩ := n.ex
  exact pe_call0 h3 (hr.mono hj) hg h1 h2 h4 h5 hx hdb
end
theorem Same.tup {K : PySem.W.Frag} {H H' : Hp} {a : Addr} {xs : List V} (e : Same H H') (h : SqT K H a xs) : SqT K H' a xs := by
  rcases h with (h | ⟨o, h⟩) | h
  · exact .inl (.inl (e _ _ h))
  · exact .inl (.inr ⟨o, e _ _ h⟩)
  · exact .inr h
theorem Same.add {H : Hp} {p : Addr} {o : HO} (h : H p = none) : Same H (upd H p o) := fun b u q => by
  rw [upd_ne (ne_of_none q h)]
  exact q
/-- a thing just laid, told by what stays -/
theorem laid {o : HO} {H : Hp} {Q : VK} (h : ∀ p H1, H p = none → Same H H1 → H1 p = some o → Q (.ref p) H1) : ∀ p, H p = none → Q (.ref p) (upd H p o) := fun p hp => h p _ hp (Same.add hp) upd_same
theorem line5 {n : Nat} (h : n ≤ 100000) : n ≤ sizeLine := Nat.le_trans h (by decide)
end Bm
set_option maxHeartbeats 400000
namespace Bm
open PySem PySem.Spec PyProof.Rows L2
/-! what a pattern gives -/
def PEv (t : TPt) (v : V) (H : Hp) (r : Option (List (Nat × V))) : Prop := ∀ k : PK, k r H → t v H k
def PsEv (t : List V → Hp → PK → Prop) (vs : List V) (H : Hp) (r : Option (List (Nat × V))) : Prop := ∀ k : PK, k r H → t vs H k
section
variable {K : PySem.W.Frag} {H : Hp} {v : V} {t : TPt} {u : List V → Hp → PK → Prop} {vs : List V} {a : Addr} {n : Nat} {D : Ends} {σ : L2.St} {b : TS} {cs : TCs}
theorem pev_yes {c : V} (h : scal c c = true) : PEv (tPv c) c H (some []) := fun k q => ⟨h, by rw [if_pos rfl]; exact q⟩
theorem pev_no {c : V} (h : scal v c = true) (hn : v ≠ c) : PEv (tPv c) v H none := fun k q => ⟨h, by rw [if_neg hn]; exact q⟩
theorem pev_str {x c : Str} (hn : x ≠ c) : PEv (tPv (.str c)) (.str x) H none := pev_no rfl fun z => hn (V.str.inj z)
theorem pev_name {i : Nat} : PEv (tPn i) v H (some [(i, v)]) := fun k q => q
theorem pev_wild : PEv tPw v H (some []) := fun k q => q
theorem psev_nil : PsEv tPnil [] H (some []) := fun k q => ⟨rfl, q⟩
theorem psev_cons {x y : List (Nat × V)} (h1 : PEv t v H (some x)) (h2 : PsEv u vs H (some y)) : PsEv (tPcons t u) (v :: vs) H (some (x ++ y)) := fun k q => ⟨v, vs, rfl, h1 _ (h2 _ q)⟩
theorem psev_no (h1 : PEv t v H none) : PsEv (tPcons t u) (v :: vs) H none := fun k q => ⟨v, vs, rfl, h1 _ q⟩
theorem psev_skip {x : List (Nat × V)} (h1 : PEv t v H (some x)) (h2 : PsEv u vs H none) : PsEv (tPcons t u) (v :: vs) H none := fun k q => ⟨v, vs, rfl, h1 _ (h2 _ q)⟩
theorem pev_seq {r : Option (List (Nat × V))} (hs : SqT K H a vs) (hl : vs.length = n) (h : PsEv u vs H r) : PEv (tPseq K n u) (.ref a) H r := fun k q => ⟨a, vs, rfl, hs, by rw [if_pos hl]; exact h k q⟩
theorem pev_len (hs : SqT K H a vs) (hl : vs.length ≠ n) : PEv (tPseq K n u) (.ref a) H none := fun k q => ⟨a, vs, rfl, hs, by rw [if_neg hl]; exact q⟩
theorem cs_yes {x : List (Nat × V)} (h : PEv t v H (some x)) (q : b D (setAll x σ) H) : tCs t b cs v D σ H := h _ q
theorem cs_no (h : PEv t v H none) (q : cs v D σ H) : tCs t b cs v D σ H := h _ q
theorem pev_first {r : Option (List (Nat × V))} {x : List (Nat × V)} (h : PEv t v H (some x)) (t2 : TPt) : PEv (tPfirst t t2) v H (some x) := fun k q => h _ q
theorem pev_next {t2 : TPt} {r : Option (List (Nat × V))} (h : PEv t v H none) (h2 : PEv t2 v H r) : PEv (tPfirst t t2) v H r := fun k q => h _ (h2 k q)
theorem pev_or {x : List (Nat × V)} (h : PEv t v H (some x)) : PEv (tPor t) v H (some []) := fun k q => h _ q
theorem pev_orN (h : PEv t v H none) : PEv (tPor t) v H none := fun k q => h _ q
end
end Bm
set_option maxHeartbeats 400000
namespace Bm
open PySem L2
/-! the deeds -/
def SG : List Str := ["halt", "rest", "back", "say", "ask", "push", "pop"]
def SM : List Str := ["add", "less", "and", "or", "xor", "left", "right", "turn"]
def TM : List Str := ["always", "zero", "some", "carry", "clear", "minus", "over"]
abbrev nm (l : List Str) (k : Nat) : Str := l.getD k ""
inductive De where
  | sgl (k : Nat) | reg (k : Nat) (a : Int) | sum (k : Nat) (d a b : Int) | plus (d a n : Int) | set (d n : Int) | high (d n : Int) | load (d a n : Int) | store (d a n : Int)
  | jump (k : Nat) (g : Int) (far : Bool) | call (g : Int) (far : Bool)
def r3 (a : Int) : Prop := 0 ≤ a ∧ a ≤ 7
def De.ok : De → Prop
  | .sgl k => k < 3
  | .reg k a => 3 ≤ k ∧ k < 7 ∧ r3 a
  | .sum k d a b => k < 8 ∧ r3 d ∧ r3 a ∧ r3 b
  | .plus d a n => r3 d ∧ r3 a ∧ -32 ≤ n ∧ n ≤ 31
  | .set d n => r3 d ∧ 0 ≤ n ∧ n ≤ 511
  | .high d n => r3 d ∧ 0 ≤ n ∧ n ≤ 127
  | .load d a n => r3 d ∧ r3 a ∧ 0 ≤ n ∧ n ≤ 63
  | .store d a n => r3 d ∧ r3 a ∧ 0 ≤ n ∧ n ≤ 63
  | .jump k g _ => k < 7 ∧ 0 ≤ g ∧ g ≤ 65535
  | .call g _ => 0 ≤ g ∧ g ≤ 65535
def De.vals : De → List V
  | .sgl k => [.str (nm SG k)]
  | .reg k a => [.str (nm SG k), .int a]
  | .sum k d a b => [.str (nm SM k), .int d, .int a, .int b]
  | .plus d a n => [.str "plus", .int d, .int a, .int n]
  | .set d n => [.str "set", .int d, .int n]
  | .high d n => [.str "high", .int d, .int n]
  | .load d a n => [.str "load", .int d, .int a, .int n]
  | .store d a n => [.str "store", .int d, .int a, .int n]
  | .jump k g f => [.str "jump", .str (nm TM k), .int g, .bl f]
  | .call g f => [.str "call", .int g, .bl f]
/-- the word of a deed that goes nowhere -/
def De.word : De → Int
  | .sgl k => k * 512
  | .reg k a => k * 512 + a * 64
  | .sum k d a b => 4096 + d * 512 + a * 64 + b * 8 + k
  | .plus d a n => 8192 + d * 512 + a * 64 + n % 64
  | .set d n => 12288 + d * 512 + n
  | .high d n => 16384 + d * 512 + n
  | .load d a n => 20480 + d * 512 + a * 64 + n
  | .store d a n => 24576 + d * 512 + a * 64 + n
  | _ => 0
def De.goes : De → Bool
  | .jump _ _ _ => true
  | .call _ _ => true
  | _ => false
def near (g p : Int) : Prop := -16 ≤ g - p - 1 ∧ g - p - 1 ≤ 15
instance (g p : Int) : Decidable (near g p) := inferInstanceAs (Decidable (_ ∧ _))
def De.reached (p : Int) : De → Prop
  | .jump _ g false => near g p
  | .call g false => near g p
  | _ => True
def De.words (p : Int) : De → List Int
  | .jump k g true => [32768 + k * 512, g]
  | .jump k g false => [28672 + k * 512 + (g - p - 1) % 32]
  | .call g true => [40960, g]
  | .call g false => [36864 + (g - p - 1) % 32]
  | d => [d.word]
theorem words_word {d : De} (h : d.goes = false) (p : Int) : d.words p = [d.word] := by
  cases d <;> first | rfl | cases h
/-! bits side by side -/
theorem or_side {x y : Int} (k : Nat) (hx : 0 ≤ x) (h0 : 0 ≤ y) (h1 : y < 2 ^ k) : Builtin.bitOr (x * 2 ^ k) y = x * 2 ^ k + y := by
  rw [Bits.bitOr_join' h0 h1 hx, Int.add_comm]
theorem or6 {x y : Int} (hx : 0 ≤ x) (h0 : 0 ≤ y) (h1 : y < 64) : Builtin.bitOr (x * 64) y = x * 64 + y := or_side 6 hx h0 h1
theorem or9 {x y : Int} (hx : 0 ≤ x) (h0 : 0 ≤ y) (h1 : y < 512) : Builtin.bitOr (x * 512) y = x * 512 + y := or_side 9 hx h0 h1
theorem or3' {x y : Int} (hx : 0 ≤ x) (h0 : 0 ≤ y) (h1 : y < 8) : Builtin.bitOr (x * 8) y = x * 8 + y := or_side 3 hx h0 h1
/-! the names -/
theorem sg_ne : ∀ k, k < 7 → nm SG k ≠ "set" ∧ nm SG k ≠ "high" ∧ nm SG k ≠ "jump" ∧ nm SG k ≠ "call" := by decide +kernel
theorem sm_ne : ∀ k, k < 8 → nm SM k ≠ "plus" ∧ nm SM k ≠ "load" ∧ nm SM k ≠ "store" ∧ nm SM k ≠ "jump" ∧ nm SM k ≠ "call" := by decide +kernel
theorem sg_at : ∀ k, k < 7 → SG[k]? = some (nm SG k) ∧ ∀ m, m < k → SG[m]? ≠ some (nm SG k) := by decide +kernel
theorem sm_at : ∀ k, k < 8 → SM[k]? = some (nm SM k) ∧ ∀ m, m < k → SM[m]? ≠ some (nm SM k) := by decide +kernel
theorem tm_at : ∀ k, k < 7 → TM[k]? = some (nm TM k) ∧ ∀ m, m < k → TM[m]? ≠ some (nm TM k) := by decide +kernel
end Bm
set_option maxHeartbeats 400000
namespace Bm
open PySem PySem.Spec PyProof.Rows L2
/-! a tuple that the top has written, at an address -/
def tupAt (K : PySem.W.Frag) (a : Addr) (vs : List He.Dv) : Bool := match K.lookup a with
  | some ⟨.type c, none, .seq its _, _⟩ => decide (c = "tuple") && (decide (its.size ≤ sizeLine) && He.relAll (vs.map (He.Dv.v K)) its.toList)
  | _ => false
theorem tupAt_ok {K : PySem.W.Frag} {a : Addr} {vs : List He.Dv} (h : tupAt K a vs = true) (H : Hp) : SqT K H a (vs.map (He.Dv.v K)) ∧ tyV K "tuple" (.ref a) H := by
  unfold tupAt at h
  cases q : K.lookup a with
  | none => rw [q] at h; cases h
  | some o =>
    obtain ⟨oc, od, dt, osl⟩ := o
    rw [q] at h
    cases oc with
    | type c =>
      cases od with
      | some z => cases dt <;> cases h
      | none =>
        cases dt with
        | seq its n =>
          obtain ⟨h1, h2⟩ := He.ba (show (decide (c = "tuple") && (decide (its.size ≤ sizeLine) && He.relAll (vs.map (He.Dv.v K)) its.toList)) = true from h)
          obtain ⟨h3, h4⟩ := He.ba h2
          exact ⟨.inr ⟨_, its, n, q, congrArg Value.type (of_decide_eq_true h1), rfl, of_decide_eq_true h3, He.relAll_ok h4⟩, .inr (.inl ⟨rfl, _, q, congrArg Value.type (of_decide_eq_true h1), rfl⟩)⟩
        | _ => cases h
    | _ => cases od <;> cases dt <;> cases h
/-! a table of the top from texts to tuples -/
def rowB (K : PySem.W.Frag) (d : Addr) (r : Str × List He.Dv) : Bool := match PySem.W.nsIn K d r.1 with
  | some (some (.ref t)) => tupAt K t r.2
  | _ => false
theorem rowB_ok {K : PySem.W.Frag} {d : Addr} {r : Str × List He.Dv} (h : rowB K d r = true) : ∃ t, PySem.W.nsIn K d r.1 = some (some (.ref t)) ∧ ∀ H, SqT K H t (r.2.map (He.Dv.v K)) := by
  unfold rowB at h
  cases q : PySem.W.nsIn K d r.1 with
  | none => rw [q] at h; cases h
  | some o =>
    rw [q] at h
    cases o with
    | none => cases h
    | some v =>
      cases v with
      | ref t => exact ⟨t, rfl, fun H => (tupAt_ok h H).1⟩
      | _ => cases h
def noB (K : PySem.W.Frag) (d : Addr) (x : Str) : Bool := He.eqO (PySem.W.nsIn K d x) (some none)
def dStr (l : List Str) : List He.Dv := l.map He.Dv.str
theorem dStr_v {K : PySem.W.Frag} (l : List Str) : (dStr l).map (He.Dv.v K) = l.map V.str := by
  unfold dStr
  rw [List.map_map]
  rfl
def PT : List (Str × List Str) := [("halt", []), ("rest", []), ("back", []), ("say", ["reg"]), ("ask", ["reg"]), ("push", ["reg"]), ("pop", ["reg"]),
  ("add", ["reg", "reg", "reg"]), ("less", ["reg", "reg", "reg"]), ("and", ["reg", "reg", "reg"]), ("or", ["reg", "reg", "reg"]), ("xor", ["reg", "reg", "reg"]), ("left", ["reg", "reg", "reg"]), ("right", ["reg", "reg", "reg"]), ("turn", ["reg", "reg", "reg"]),
  ("plus", ["reg", "reg", "signed six"]), ("set", ["reg", "nine"]), ("high", ["reg", "seven"]), ("load", ["reg", "reg", "six"]), ("store", ["reg", "reg", "six"]), ("jump", ["when", "goal", "far"]), ("call", ["goal", "far"])]
def ST : List (Str × Int × Int) := [("reg", 0, 7), ("signed six", -32, 31), ("six", 0, 63), ("seven", 0, 127), ("nine", 0, 511), ("goal", 0, 65535)]
/-- what the deeds' module has written -/
def conB (odd : List Str) (K : PySem.W.Frag) : Bool :=
  tupAt K (He.ga K "SINGLES") (dStr SG) && (tupAt K (He.ga K "SUMS") (dStr SM) && (tupAt K (He.ga K "TIMES") (dStr TM) &&
    ((PT.all fun r => rowB K (He.ga K "PARTS") (r.1, dStr r.2)) && ((ST.all fun r => rowB K (He.ga K "SPANS") (r.1, [.int r.2.1, .int r.2.2])) && odd.all fun x => noB K (He.ga K "PARTS") x))))
structure Con (w : World) (K : PySem.W.Frag) (mg : Str → Option Value) (odd : List Str) : Prop where
  g_SINGLES : mg "SINGLES" = some (.ref (He.ga K "SINGLES"))
  g_SUMS : mg "SUMS" = some (.ref (He.ga K "SUMS"))
  g_TIMES : mg "TIMES" = some (.ref (He.ga K "TIMES"))
  g_PARTS : mg "PARTS" = some (.ref (He.ga K "PARTS"))
  g_SPANS : mg "SPANS" = some (.ref (He.ga K "SPANS"))
  sg : ∀ H, SqT K H (He.ga K "SINGLES") (SG.map V.str) ∧ tyV K "tuple" (.ref (He.ga K "SINGLES")) H
  sm : ∀ H, SqT K H (He.ga K "SUMS") (SM.map V.str) ∧ tyV K "tuple" (.ref (He.ga K "SUMS")) H
  tm : ∀ H, SqT K H (He.ga K "TIMES") (TM.map V.str) ∧ tyV K "tuple" (.ref (He.ga K "TIMES")) H
  parts : ∃ es n, KDict K w (He.ga K "PARTS") es n
  spans : ∃ es n, KDict K w (He.ga K "SPANS") es n
  part : ∀ r ∈ PT, ∃ t, PySem.W.nsIn K (He.ga K "PARTS") r.1 = some (some (.ref t)) ∧ ∀ H, SqT K H t (r.2.map V.str)
  span : ∀ r ∈ ST, ∃ t, PySem.W.nsIn K (He.ga K "SPANS") r.1 = some (some (.ref t)) ∧ ∀ H, SqT K H t [.int r.2.1, .int r.2.2]
  odd : ∀ x ∈ odd, PySem.W.nsIn K (He.ga K "PARTS") x = some none
theorem con_of {w : World} {K : PySem.W.Frag} {mg : Str → Option Value} {odd : List Str} (h : conB odd K = true) (g1 : mg "SINGLES" = some (.ref (He.ga K "SINGLES"))) (g2 : mg "SUMS" = some (.ref (He.ga K "SUMS"))) (g3 : mg "TIMES" = some (.ref (He.ga K "TIMES")))
    (g4 : mg "PARTS" = some (.ref (He.ga K "PARTS"))) (g5 : mg "SPANS" = some (.ref (He.ga K "SPANS"))) (p : ∃ es n, KDict K w (He.ga K "PARTS") es n) (s : ∃ es n, KDict K w (He.ga K "SPANS") es n) : Con w K mg odd := by
  obtain ⟨h1, h⟩ := He.ba h
  obtain ⟨h2, h⟩ := He.ba h
  obtain ⟨h3, h⟩ := He.ba h
  obtain ⟨h4, h⟩ := He.ba h
  obtain ⟨h5, h6⟩ := He.ba h
  refine ⟨g1, g2, g3, g4, g5, fun H => ?_, fun H => ?_, fun H => ?_, p, s, fun r hr => ?_, fun r hr => ?_, fun x hx => ?_⟩
  · rw [← dStr_v (K := K)]
    exact tupAt_ok h1 H
  · rw [← dStr_v (K := K)]
    exact tupAt_ok h2 H
  · rw [← dStr_v (K := K)]
    exact tupAt_ok h3 H
  · obtain ⟨t, e, q⟩ := rowB_ok (List.all_eq_true.mp h4 r hr)
    refine ⟨t, e, fun H => ?_⟩
    rw [← dStr_v (K := K)]
    exact q H
  · obtain ⟨t, e, q⟩ := rowB_ok (List.all_eq_true.mp h5 r hr)
    exact ⟨t, e, fun H => q H⟩
  · exact He.eqO_ok (List.all_eq_true.mp h6 x hx)
end Bm
set_option maxHeartbeats 400000
namespace Bm
open PySem PySem.Spec PyProof.Rows L2
theorem Same.mut {H H' : Hp} {p : Addr} {o : HO} (e : Same H H') (h : H p = none) : Same H (upd H' p o) := fun a u ha => by
  rw [upd_ne (ne_of_none ha h)]
  exact e a u ha
theorem walk_zipT {K : PySem.W.Frag} {a b : Addr} {xs ys : List V} {n : Nat} (hn : n = min xs.length ys.length) : Walk (RZ.ItzT K a b) n (fun H => SqT K H a xs ∧ SqT K H b ys) (YPair (fun i => xs[i]?) (fun i => ys[i]?)) := by
  subst hn
  constructor
  · intro n _ ln g
    exact ⟨xs, ys, xs[n]'(by omega), ys[n]'(by omega), g.1, g.2, List.getElem?_eq_getElem (by omega), List.getElem?_eq_getElem (by omega)⟩
  · exact fun _ g => ⟨xs, ys, g.1, g.2, by omega⟩
  · rintro n G v G2 _ g ⟨T, p, r, e1, e2, e3, a1, a2⟩
    exact ⟨T, p, r, e1, e2, e3, a1 xs g.1, a2 ys g.2⟩
/-! in, of a tuple of any data -/
def rInT (K : PySem.W.Frag) : R2 := fun x y H Q => ∃ d ds, Dp K H x d ∧ Dp K H y (.tuple ds) ∧ SeqAt.shaped d = true ∧ SeqAt.shaped (.tuple ds) = true ∧ Q (.bl (ds.any fun z => PyData.eqv z d)) H
theorem op_inT {X : Cx} (hu : X.A.units + 65 < cLine) : OpR X (compareOp .In) (rInT X.K) := by
  intro pn s0 σ G a b va vb Q J ra rb ⟨d, ds, g1, g2, sh1, sh2, q⟩
  have w1 := Dp.reads J d a va g1 ra
  have w2 := Dp.reads J (.tuple ds) b vb g2 rb
  exact SeqAt.in_tuple_reads w2.choose_spec w1.choose_spec (SeqAt.canLay_of_shaped sh2) (SeqAt.canLay_of_shaped sh1) (room_in_shaped sh1 hu) ⟨.bl _, G, J, rfl, q⟩
/-- in: flat items, or any data in a tuple -/
def rIn2 (K : PySem.W.Frag) : R2 := fun x y H Q => rIn K false x y H Q ∨ rInT K x y H Q
theorem op_in2 {X : Cx} (hu : X.A.units + 65 < cLine) : OpR X (compareOp .In) (rIn2 X.K) := by
  intro pn s0 σ G a b va vb Q J ra rb w
  exact w.elim (fun w => op_in_seq pn s0 σ G a b va vb Q J ra rb w) (fun w => op_inT hu pn s0 σ G a b va vb Q J ra rb w)
theorem hu65 {A : Around} {k : Nat} (hr : Room k A) : A.units + 65 < cLine := by
  have := hr.un
  omega
/-! a value's kind -/
inductive Knd (K : PySem.W.Frag) (H : Hp) : V → String → Prop
  | int (i : Int) : Knd K H (.int i) "int"
  | bl (b : Bool) : Knd K H (.bl b) "bool"
  | str (x : Str) : Knd K H (.str x) "str"
  | non : Knd K H .non "NoneType"
  | tup {a : Addr} {xs : List V} (h : SqT K H a xs) : Knd K H (.ref a) "tuple"
  | lst {a : Addr} {xs : List V} (h : SqL K H a xs) : Knd K H (.ref a) "list"
theorem Knd.ty {K : PySem.W.Frag} {H : Hp} {v : V} {t : String} (h : Knd K H v t) : TyX K H v (.type t) := by
  cases h with
  | int i => exact .base (.int i)
  | bl b => exact .base (.bl b)
  | str x => exact .base (.str x)
  | non => exact .base .non
  | tup h =>
    rcases h with (h | ⟨o, h⟩) | ⟨o, its, n, h1, h2, _⟩
    · exact .base (.tup h)
    · exact .fTuple h
    · exact .kTuple h1 h2
  | lst h =>
    rcases h with (h | ⟨o, h⟩) | ⟨o, its, n, h1, h2, _⟩
    · exact .base (.lst h)
    · exact .base (.frz h)
    · exact .kList h1 h2
/-- isinstance(x, t) -/
theorem isi {K : PySem.W.Frag} {H : Hp} {v : V} {t c : String} {b : Bool} {Q : VK} (h : Knd K H v t) (hk : kitB t c = some b) (q : Q (.bl b) H) : rIsi K [v, .ty c] H Q :=
  ⟨_, _, _, _, _, rfl, .ty c, h.ty, kit_ty hk, q⟩
end Bm
namespace Bm
open PySem PySem.Spec PyProof.Rows L2
/-! slices -/
theorem cut_tail (x : V) (r : List V) : cutV (x :: r) (some 1) none = r := by
  have e : HT.sIx (x :: r).length 0 (some ((1 : Nat) : Int)) = 1 := by
    rw [HT.sIx_nat, List.length_cons]
    omega
  have e1 : HT.sIx (x :: r).length 0 (some 1) = 1 := e
  unfold cutV
  rw [e1, HT.sIx_none, List.length_cons]
  show (r.take (r.length + 1 - 1)) = r
  rw [Nat.add_sub_cancel, List.take_length]
theorem not_whole_tail (x : V) (r : List V) : ¬ (HT.sIx (x :: r).length 0 (some 1) = 0 ∧ HT.sIx (x :: r).length (x :: r).length none = (x :: r).length) := by
  have e : HT.sIx (x :: r).length 0 (some ((1 : Nat) : Int)) = 1 := by
    rw [HT.sIx_nat, List.length_cons]
    omega
  intro z
  have e1 : HT.sIx (x :: r).length 0 (some 1) = 1 := e
  rw [e1] at z
  cases z.1
theorem at0 {x : V} {r : List V} : atI (x :: r) 0 = some x := atI_nat (j := 0) rfl
theorem take_succ' {α : Type} {l : List α} {i : Nat} {x : α} (h : l[i]? = some x) : l.take (i + 1) = l.take i ++ [x] := by
  rw [List.take_succ, h]
  rfl
end Bm
set_option maxHeartbeats 0
namespace Bm
open PySem PySem.Spec PyProof.Rows L2
def top (i : Nat) : Stmt := PySem.Challenge.pw_bitmill_k02_words_of_deeds.main.body.getD i (.Pass ⟨0, 0, 0, 0⟩)
abbrev s_is_number : Stmt := top 7
abbrev s_is_part : Stmt := top 14
abbrev s_is_deed : Stmt := top 15
abbrev s_packed : Stmt := top 16
abbrev s_words_of : Stmt := top 17
abbrev s_going_words : Stmt := top 18
abbrev s_is_reached : Stmt := top 19
abbrev s_only_word : Stmt := top 20
abbrev s_fields : Stmt := top 21
abbrev s__law_start : Stmt := top 23
abbrev s__law_drawn : Stmt := top 24
abbrev s__law_same : Stmt := top 25
abbrev s__law_plain : Stmt := top 26
abbrev s__law_pairs : Stmt := top 27
abbrev s__law_times : Stmt := top 28
abbrev s__law_number : Stmt := top 29
abbrev s__law_deed : Stmt := top 30
abbrev s__law_words : Stmt := top 31
abbrev s_law : Stmt := top 32
def d_is_number : He.DefD := ⟨("is_number", none), "is_number", "is_number", defArgs s_is_number, defBody s_is_number, defScope s_is_number, [], []⟩
def d_is_part : He.DefD := ⟨("is_part", none), "is_part", "is_part", defArgs s_is_part, defBody s_is_part, defScope s_is_part, [], []⟩
def d_is_deed : He.DefD := ⟨("is_deed", none), "is_deed", "is_deed", defArgs s_is_deed, defBody s_is_deed, defScope s_is_deed, [], []⟩
def d_packed : He.DefD := ⟨("packed", none), "packed", "packed", defArgs s_packed, defBody s_packed, defScope s_packed, [.int 0], []⟩
def d_words_of : He.DefD := ⟨("words_of", none), "words_of", "words_of", defArgs s_words_of, defBody s_words_of, defScope s_words_of, [], []⟩
def d_going_words : He.DefD := ⟨("going_words", none), "going_words", "going_words", defArgs s_going_words, defBody s_going_words, defScope s_going_words, [], []⟩
def d_is_reached : He.DefD := ⟨("is_reached", none), "is_reached", "is_reached", defArgs s_is_reached, defBody s_is_reached, defScope s_is_reached, [], []⟩
def d_only_word : He.DefD := ⟨("only_word", none), "only_word", "only_word", defArgs s_only_word, defBody s_only_word, defScope s_only_word, [], []⟩
def d_fields : He.DefD := ⟨("fields", none), "fields", "fields", defArgs s_fields, defBody s_fields, defScope s_fields, [.int 0], []⟩
def d__law_start : He.DefD := ⟨("_law_start", none), "_law_start", "_law_start", defArgs s__law_start, defBody s__law_start, defScope s__law_start, [], []⟩
def d__law_drawn : He.DefD := ⟨("_law_drawn", none), "_law_drawn", "_law_drawn", defArgs s__law_drawn, defBody s__law_drawn, defScope s__law_drawn, [], []⟩
def d__law_same : He.DefD := ⟨("_law_same", none), "_law_same", "_law_same", defArgs s__law_same, defBody s__law_same, defScope s__law_same, [], []⟩
def d__law_plain : He.DefD := ⟨("_law_plain", none), "_law_plain", "_law_plain", defArgs s__law_plain, defBody s__law_plain, defScope s__law_plain, [], []⟩
def d__law_pairs : He.DefD := ⟨("_law_pairs", none), "_law_pairs", "_law_pairs", defArgs s__law_pairs, defBody s__law_pairs, defScope s__law_pairs, [], []⟩
def d__law_times : He.DefD := ⟨("_law_times", none), "_law_times", "_law_times", defArgs s__law_times, defBody s__law_times, defScope s__law_times, [], []⟩
def d__law_number : He.DefD := ⟨("_law_number", none), "_law_number", "_law_number", defArgs s__law_number, defBody s__law_number, defScope s__law_number, [], []⟩
def d__law_deed : He.DefD := ⟨("_law_deed", none), "_law_deed", "_law_deed", defArgs s__law_deed, defBody s__law_deed, defScope s__law_deed, [], []⟩
def d__law_words : He.DefD := ⟨("_law_words", none), "_law_words", "_law_words", defArgs s__law_words, defBody s__law_words, defScope s__law_words, [], []⟩
def d_law : He.DefD := ⟨("law", none), "law", "law", defArgs s_law, defBody s_law, defScope s_law, [], []⟩
def fnL : List He.DefD := [d_is_number, d_is_part, d_is_deed, d_packed, d_words_of, d_going_words, d_is_reached, d_only_word, d_fields, d__law_start, d__law_drawn, d__law_same, d__law_plain, d__law_pairs, d__law_times, d__law_number, d__law_deed, d__law_words, d_law]
def faL : List He.Fa := [.glo "MillError", .glo "BadDeed", .glo "BadReach", .glo "BadCount", .glo "is_number", .glo "SINGLES", .glo "SUMS", .glo "TIMES", .glo "PARTS", .glo "SPANS", .glo "is_part", .glo "is_deed", .glo "packed", .glo "words_of", .glo "going_words", .glo "is_reached", .glo "only_word", .glo "fields", .glo "_law_start", .glo "_law_drawn", .glo "_law_same", .glo "_law_plain", .glo "_law_pairs", .glo "_law_times", .glo "_law_number", .glo "_law_deed", .glo "_law_words", .glo "law", .int "IMAGE_MOST" 200, .free "all", .free "bool", .free "int", .free "isinstance", .free "len", .free "list", .free "max", .free "min", .free "range", .free "str", .free "sum", .free "tuple", .free "zip", .exc "BadDeed", .exc "BadReach", .exc "BadCount"]
def tsL : List He.Tab := [(fun K => He.ga K "PARTS", ["halt", "rest", "back", "say", "ask", "push", "pop", "add", "less", "and", "or", "xor", "left", "right", "turn", "plus", "set", "high", "load", "store", "jump", "call"]), (fun K => He.ga K "SPANS", ["reg", "signed six", "six", "seven", "nine", "goal"])]
abbrev R : PySem.W.OpenRow := PySem.W.OpenLaw.row PySem.Challenge.rw_bitmill_k02_words_of_deeds
def loose0 : List PySem.Str := ["MillError", "BadDeed", "BadReach", "BadCount", "IMAGE_MOST", "is_number", "SINGLES", "SUMS", "TIMES", "PARTS", "SPANS", "is_part", "is_deed", "packed", "words_of", "going_words", "is_reached", "only_word", "fields", "_law_start", "_law_drawn", "_law_same", "_law_plain", "_law_pairs", "_law_times", "_law_number", "_law_deed", "_law_words"]
def looseL : List PySem.Str := loose0
def LAWI : Nat := 32
end Bm
set_option maxHeartbeats 400000
namespace Bm
open PySem PySem.Spec PyProof.Rows L2
section
variable {P : Program} {w : World} {K : PySem.W.Frag} {mg : Str → Option Value} {base : Heap} {f : Addr} {fd : FuncData} {dvs : List V}
abbrev FnP (K : PySem.W.Frag) (x : Str) (st : Stmt) (dvs : List V) (f : Addr) (fd : FuncData) : Prop := FunD K x x (defArgs st) (defBody st) (defScope st) dvs [] f fd
/-! fields -/
theorem or3 {f a b : Int} (hf : 0 ≤ f ∧ f < 16) (ha : 0 ≤ a ∧ a < 8) (hb : 0 ≤ b ∧ b < 8) : Builtin.bitOr (Builtin.bitOr (f * 2 ^ 12) (a * 2 ^ 9)) (b * 2 ^ 6) = f * 4096 + a * 512 + b * 64 := by
  have e0 : f * 2 ^ 12 = (f * 8) * 512 := by omega
  have e1 : Builtin.bitOr (f * 2 ^ 12) (a * 2 ^ 9) = f * 4096 + a * 512 := by
    have e := or_side (x := f) (y := a * 2 ^ 9) 12 (by omega) (by omega) (by omega)
    rw [e]
    omega
  rw [e1]
  have e2 : f * 4096 + a * 512 = (f * 8 + a) * 512 := by omega
  rw [e2, or9 (by omega) (by omega) (by omega)]
  omega
def spFields : Sp := fun vs H Q _ => ∃ f a b : Int, vs = [.int f, .int a, .int b] ∧ (0 ≤ f ∧ f < 16) ∧ (0 ≤ a ∧ a < 8) ∧ (0 ≤ b ∧ b < 8) ∧ Q (.int (f * 4096 + a * 512 + b * 64)) H
theorem sc_fields : FnScope ["form", "first", "second"] ["form", "first", "second"] (defScope s_fields) := ⟨rfl, rfl, rfl, by decide +kernel, rfl, by decide +kernel, by decide +kernel⟩
theorem cpow {i j : Int} (h : 0 ≤ i ∧ i < 65536) (hj : 0 ≤ j ∧ j ≤ 64) : 0 ≤ j ∧ j ≤ 1000000 ∧ i.natAbs < 2 ^ 64 := ⟨hj.1, by omega, by omega⟩
theorem ok_fields (F : FnP K "fields" s_fields dvs f fd) : FnOk P w K mg base CX0 1 f fd ["form", "first", "second"] spFields := by
  refine F.ok sc_fields (fun vs H Q E h => ?_) (fun cdv A outer s H vs Q E hr h => ?_)
  · obtain ⟨f, a, b, rfl, _⟩ := h
    rfl
  · obtain ⟨f, a, b, rfl, hf, ha, hb, q⟩ := h
    refine ⟨_, PSs.nox (pss_one (ps_ret (pe_op op_or (pe_op op_or (pe_op op_shl (pv 0) pe_int) (pe_op op_shl (pv 1) pe_int)) (pe_op op_shl (pv 2) pe_int)))), ?_⟩
    refine ⟨_, rfl, _, _, rfl, rfl, cpow (by omega) (by decide), _, rfl, _, _, rfl, rfl, cpow (by omega) (by decide), _, _, rfl, rfl, _, rfl, _, _, rfl, rfl, cpow (by omega) (by decide), _, _, rfl, rfl, ?_⟩
    have e := or3 hf ha hb
    show Q (.int (Builtin.bitOr (Builtin.bitOr (f * 2 ^ 12) (a * 2 ^ 9)) (b * 2 ^ 6))) H
    rw [e]
    exact q
abbrev KnF (P : Program) (w : World) (K : PySem.W.Frag) (mg : Str → Option Value) (base : Heap) (dvs : List V) : Prop := Kn P w K mg base CX0 1 "fields" ["form", "first", "second"] dvs spFields
/-! is_reached -/
def spReached : Sp := fun vs H Q _ => ∃ p g : Int, vs = [.int p, .int g] ∧ Q (.bl (decide (near g p))) H
abbrev N_is_reached : List Str := ["place", "goal"]
theorem sc_is_reached : FnScope ["place", "goal"] ["place", "goal"] (defScope s_is_reached) := ⟨rfl, rfl, rfl, by decide +kernel, rfl, by decide +kernel, by decide +kernel⟩
theorem ok_reached (F : FnP K "is_reached" s_is_reached dvs f fd) : FnOk P w K mg base CX0 1 f fd ["place", "goal"] spReached := by
  refine F.ok sc_is_reached (fun vs H Q E h => ?_) (fun cdv A outer s H vs Q E hr h => ?_)
  · obtain ⟨p, g, rfl, _⟩ := h
    rfl
  · obtain ⟨p, g, rfl, q⟩ := h
    refine ⟨_, PSs.nox (pss_one (ps_ret (pe_chain op_le op_le (pe_un un_neg pe_int) (pe_op op_sub (pe_op op_sub (pv 1) (pv 0)) pe_int) pe_int))), ?_⟩
    refine ⟨_, rfl, _, rfl, _, rfl, _, _, rfl, rfl, _, _, rfl, rfl, _, _, rfl, rfl, _, rfl, ?_⟩
    by_cases c1 : -16 ≤ g - p - 1
    · rw [decide_eq_true c1]
      refine iteT ⟨_, _, rfl, rfl, ?_⟩
      have e : decide (near g p) = decide (g - p - 1 ≤ 15) := decide_eq_decide.mpr ⟨fun h => h.2, fun h => ⟨c1, h⟩⟩
      rw [e] at q
      exact q
    · rw [decide_eq_false c1]
      have e : decide (near g p) = false := decide_eq_false fun h => c1 h.1
      rw [e] at q
      exact iteF q
abbrev KnRe (P : Program) (w : World) (K : PySem.W.Frag) (mg : Str → Option Value) (base : Heap) : Prop := Kn P w K mg base CX0 1 "is_reached" ["place", "goal"] [] spReached
/-! going_words -/
def spGoing : Sp := fun vs H Q _ => ∃ (nf k g : Int) (far : Bool) (p : Int), vs = [.int nf, .int k, .int g, .bl far, .int p] ∧ (0 ≤ nf ∧ nf < 15) ∧ (0 ≤ k ∧ k < 8) ∧
  (far = true → ∀ q H', Same H H' → H' q = some (.tup [.int ((nf + 1) * 4096 + k * 512), .int g]) → Q (.ref q) H') ∧
  (far = false → near g p → ∀ q H', Same H H' → H' q = some (.tup [.int (nf * 4096 + k * 512 + (g - p - 1) % 32)]) → Q (.ref q) H') ∧ (far = false → ¬ near g p → Q .non H)
abbrev N_going_words : List Str := ["near_form", "when", "goal", "far", "place"]
theorem sc_going_words : FnScope ["near_form", "when", "goal", "far", "place"] ["near_form", "when", "goal", "far", "place"] (defScope s_going_words) := ⟨rfl, rfl, rfl, by decide +kernel, rfl, by decide +kernel, by decide +kernel⟩
theorem ok_going (F : FnP K "going_words" s_going_words dvs f fd) (k_fields_2 : KnF P w K mg base [.int 0]) (k_is_reached : KnRe P w K mg base) : FnOk P w K mg base CX0 2 f fd ["near_form", "when", "goal", "far", "place"] spGoing := by
  refine F.ok sc_going_words (fun vs H Q E h => ?_) (fun cdv A outer s H vs Q E hr h => ?_)
  · obtain ⟨nf, k, g, far, p, rfl, _⟩ := h
    rfl
  · obtain ⟨nf, k, g, far, p, rfl, hf, hk, q1, q2, q3⟩ := h
    refine ⟨_, PSs.nox (pss_cons (ps_if (pt_val (pv 3)) (pss_one (ps_ret (pe_tup (pa_cons (pk k_fields_2 hr (by decide) rfl pass0 (pa_cons (pe_op op_add (pv 0) pe_int) (pa_cons (pv 1) pa_nil))) (pa_cons (pv 2) pa_nil))))) pss_nil)
      (pss_cons (ps_if (pt_not (pt_val (pk k_is_reached hr (by decide) rfl pass0 (pa_cons (pv 4) (pa_cons (pv 2) pa_nil))))) (pss_one (ps_ret pe_non)) pss_nil)
      (pss_one (ps_ret (pe_tup (pa_cons (pe_op op_or (pk k_fields_2 hr (by decide) rfl pass0 (pa_cons (pv 0) (pa_cons (pv 1) pa_nil))) (pe_op op_and (pe_op op_sub (pe_op op_sub (pv 2) (pv 4)) pe_int) pe_int)) pa_nil)))))), ?_⟩
    refine ⟨_, rfl, _, rfl, ?_⟩
    cases far with
    | true =>
      refine iteT ?_
      refine ⟨_, rfl, _, _, rfl, rfl, _, rfl, nf + 1, k, 0, rfl, by omega, by omega, by omega, _, rfl, line5 (by simp), laid fun q H1 _ e h1 => q1 rfl q H1 e ?_⟩
      rw [h1]
      have e : (nf + 1) * 4096 + k * 512 + 0 * 64 = (nf + 1) * 4096 + k * 512 := by omega
      rw [e]
    | false =>
      refine iteF ⟨_, rfl, _, rfl, p, g, rfl, _, rfl, ?_⟩
      by_cases c : near g p
      · rw [decide_eq_true c]
        refine iteF ?_
        refine ⟨_, rfl, _, rfl, nf, k, 0, rfl, by omega, by omega, by omega, _, rfl, _, rfl, _, _, rfl, rfl, _, _, rfl, rfl, _, _, rfl, rfl, _, _, rfl, rfl, line5 (by simp), laid fun q H1 _ e h1 => q2 rfl c q H1 e ?_⟩
        have e4 : Builtin.bitOr (nf * 4096 + k * 512 + 0 * 64) (Builtin.bitAnd (g - p - 1) 31) = nf * 4096 + k * 512 + (g - p - 1) % 32 := by
          have e2 : nf * 4096 + k * 512 + 0 * 64 = (nf * 64 + k * 8) * 64 := by omega
          rw [bitAnd_m5, e2, or6 (by omega) (by omega) (by omega)]
          omega
        exact h1.trans (congrArg (fun z => some (HO.tup [V.int z])) e4)
      · rw [decide_eq_false c]
        exact iteT (q3 rfl c)
end
end Bm
set_option maxHeartbeats 800000
namespace Bm
open PySem PySem.Spec PyProof.Rows L2
section
variable {P : Program} {w : World} {K : PySem.W.Frag} {mg : Str → Option Value} {base : Heap} {f : Addr} {fd : FuncData} {dvs : List V} {odd : List Str}
/-! only_word -/
def spOnly (K : PySem.W.Frag) : Sp := fun vs H Q _ => ∃ (a : Addr) (d : De), vs = [.ref a] ∧ SqT K H a d.vals ∧ d.ok ∧ d.goes = false ∧ Q (.int d.word) H
theorem sc_only_word : FnScope ["deed", "name", "a", "d", "n", "b"] ["deed"] (defScope s_only_word) := ⟨rfl, rfl, rfl, by decide +kernel, rfl, by decide +kernel, by decide +kernel⟩
theorem ok_only (F : FnP K "only_word" s_only_word dvs f fd) (C : Con w K mg odd) (k_fields : KnF P w K mg base []) (k_fields_2 : KnF P w K mg base [.int 0]) : FnOk P w K mg base CX0 2 f fd ["deed"] (spOnly K) := by
  refine F.ok sc_only_word (fun vs H Q E h => ?_) (fun cdv A outer s H vs Q E hr h => ?_)
  · obtain ⟨a, d, rfl, _⟩ := h
    rfl
  · obtain ⟨a, d, rfl, hS, hok, hgo, q⟩ := h
    have g_SINGLES := C.g_SINGLES
    have g_SUMS := C.g_SUMS
    refine ⟨_, PSs.nox (pss_one (ps_match (pv 0) (pcs_cons sc_only_word.nd (pp_seq rfl (pps_cons (pp_name (i := 1) rfl (Or.inl rfl)) pps_nil)) (pss_one (ps_ret (pk k_fields_2 hr (by decide) rfl pass0 (pa_cons pe_int (pa_cons (pe_bm PySem.F.plainAttrs_tuple PySem.F.slot_tuple_index PySem.F.type_tuple_index mt_tup_index (pe_glob (v := .ref (He.ga K "SINGLES")) rfl g_SINGLES rfl) (pa_cons (pv 1) pa_nil)) pa_nil)))))
      (pcs_cons sc_only_word.nd (pp_seq rfl (pps_cons (pp_name (i := 1) rfl (Or.inl rfl)) (pps_cons (pp_name (i := 2) rfl (Or.inl rfl)) pps_nil))) (pss_one (ps_ret (pk k_fields hr (by decide) rfl pass0 (pa_cons pe_int (pa_cons (pe_bm PySem.F.plainAttrs_tuple PySem.F.slot_tuple_index PySem.F.type_tuple_index mt_tup_index (pe_glob (v := .ref (He.ga K "SINGLES")) rfl g_SINGLES rfl) (pa_cons (pv 1) pa_nil)) (pa_cons (pv 2) pa_nil))))))
      (pcs_cons sc_only_word.nd (pp_seq rfl (pps_cons (pp_val pe_str) (pps_cons (pp_name (i := 3) rfl (Or.inl rfl)) (pps_cons (pp_name (i := 4) rfl (Or.inl rfl)) pps_nil)))) (pss_one (ps_ret (pe_op op_or (pk k_fields_2 hr (by decide) rfl pass0 (pa_cons pe_int (pa_cons (pv 3) pa_nil))) (pv 4))))
      (pcs_cons sc_only_word.nd (pp_seq rfl (pps_cons (pp_val pe_str) (pps_cons (pp_name (i := 3) rfl (Or.inl rfl)) (pps_cons (pp_name (i := 4) rfl (Or.inl rfl)) pps_nil)))) (pss_one (ps_ret (pe_op op_or (pk k_fields_2 hr (by decide) rfl pass0 (pa_cons pe_int (pa_cons (pv 3) pa_nil))) (pv 4))))
      (pcs_cons sc_only_word.nd (pp_seq rfl (pps_cons (pp_val pe_str) (pps_cons (pp_name (i := 3) rfl (Or.inl rfl)) (pps_cons (pp_name (i := 2) rfl (Or.inl rfl)) (pps_cons (pp_name (i := 4) rfl (Or.inl rfl)) pps_nil))))) (pss_one (ps_ret (pe_op op_or (pk k_fields hr (by decide) rfl pass0 (pa_cons pe_int (pa_cons (pv 3) (pa_cons (pv 2) pa_nil)))) (pe_op op_and (pv 4) pe_int))))
      (pcs_cons sc_only_word.nd (pp_seq rfl (pps_cons (pp_val pe_str) (pps_cons (pp_name (i := 3) rfl (Or.inl rfl)) (pps_cons (pp_name (i := 2) rfl (Or.inl rfl)) (pps_cons (pp_name (i := 4) rfl (Or.inl rfl)) pps_nil))))) (pss_one (ps_ret (pe_op op_or (pk k_fields hr (by decide) rfl pass0 (pa_cons pe_int (pa_cons (pv 3) (pa_cons (pv 2) pa_nil)))) (pv 4))))
      (pcs_cons sc_only_word.nd (pp_seq rfl (pps_cons (pp_val pe_str) (pps_cons (pp_name (i := 3) rfl (Or.inl rfl)) (pps_cons (pp_name (i := 2) rfl (Or.inl rfl)) (pps_cons (pp_name (i := 4) rfl (Or.inl rfl)) pps_nil))))) (pss_one (ps_ret (pe_op op_or (pk k_fields hr (by decide) rfl pass0 (pa_cons pe_int (pa_cons (pv 3) (pa_cons (pv 2) pa_nil)))) (pv 4))))
      (pcs_cons sc_only_word.nd (pp_seq rfl (pps_cons (pp_name (i := 1) rfl (Or.inl rfl)) (pps_cons (pp_name (i := 3) rfl (Or.inl rfl)) (pps_cons (pp_name (i := 2) rfl (Or.inl rfl)) (pps_cons (pp_name (i := 5) rfl (Or.inl rfl)) pps_nil))))) (pss_one (ps_ret (pe_op op_or (pe_op op_or (pk k_fields hr (by decide) rfl pass0 (pa_cons pe_int (pa_cons (pv 3) (pa_cons (pv 2) pa_nil)))) (pe_op op_shl (pv 5) pe_int)) (pe_bm PySem.F.plainAttrs_tuple PySem.F.slot_tuple_index PySem.F.type_tuple_index mt_tup_index (pe_glob (v := .ref (He.ga K "SUMS")) rfl g_SUMS rfl) (pa_cons (pv 1) pa_nil)))))
      pcs_nil)))))))))), ?_⟩
    refine ⟨_, rfl, ?_⟩
    have iq : ∀ z : Int, z = d.word → Q (.int z) H := fun z e => by rw [e]; exact q
    cases d with
    | sgl k =>
      have hk : k < 7 := Nat.lt_of_lt_of_le hok (by decide)
      have hok : k < 3 := hok
      refine cs_yes (pev_seq hS rfl (psev_cons pev_name psev_nil)) ?_
      refine ⟨(C.sg H).2, _, rfl, _, SG, nm SG k, k, rfl, rfl, (C.sg H).1, (sg_at k hk).1, (sg_at k hk).2, 0, k, 0, rfl, by omega, by omega, by omega, iq _ ?_⟩
      show (0 : Int) * 4096 + k * 512 + 0 * 64 = k * 512
      omega
    | reg k a =>
      obtain ⟨h1, h2, h3⟩ := hok
      have h3 : 0 ≤ a ∧ a ≤ 7 := h3
      refine cs_no (pev_len hS (Nat.ne_of_beq_eq_false rfl)) (cs_yes (pev_seq hS rfl (psev_cons pev_name (psev_cons pev_name psev_nil))) ?_)
      refine ⟨(C.sg H).2, _, rfl, _, SG, nm SG k, k, rfl, rfl, (C.sg H).1, (sg_at k h2).1, (sg_at k h2).2, _, rfl, 0, k, a, rfl, by omega, by omega, by omega, iq _ ?_⟩
      show (0 : Int) * 4096 + k * 512 + a * 64 = k * 512 + a * 64
      omega
    | sum k d a b =>
      obtain ⟨h1, h2, h3, h4⟩ := hok
      have h2 : 0 ≤ d ∧ d ≤ 7 := h2
      have h3 : 0 ≤ a ∧ a ≤ 7 := h3
      have h4 : 0 ≤ b ∧ b ≤ 7 := h4
      obtain ⟨n1, n2, n3, _⟩ := sm_ne k h1
      refine cs_no (pev_len hS (Nat.ne_of_beq_eq_false rfl)) (cs_no (pev_len hS (Nat.ne_of_beq_eq_false rfl)) (cs_no (pev_len hS (Nat.ne_of_beq_eq_false rfl)) (cs_no (pev_len hS (Nat.ne_of_beq_eq_false rfl)) (cs_no (pev_seq hS rfl (psev_no (pev_str n1))) (cs_no (pev_seq hS rfl (psev_no (pev_str n2))) (cs_no (pev_seq hS rfl (psev_no (pev_str n3)))
        (cs_yes (pev_seq hS rfl (psev_cons pev_name (psev_cons pev_name (psev_cons pev_name (psev_cons pev_name psev_nil))))) ?_)))))))
      refine ⟨_, rfl, _, rfl, 1, d, a, rfl, by omega, by omega, by omega, _, rfl, _, _, rfl, rfl, cpow (by omega) (by decide), _, _, rfl, rfl, (C.sm H).2, _, rfl, _, SM, nm SM k, k, rfl, rfl, (C.sm H).1, (sm_at k h1).1, (sm_at k h1).2, _, _, rfl, rfl, iq _ ?_⟩
      show Builtin.bitOr (Builtin.bitOr (1 * 4096 + d * 512 + a * 64) (b * 2 ^ 3)) (k : Int) = 4096 + d * 512 + a * 64 + b * 8 + k
      have e1 : (1 : Int) * 4096 + d * 512 + a * 64 = (64 + d * 8 + a) * 64 := by omega
      have e2 : (64 + d * 8 + a) * 64 + b * 2 ^ 3 = (512 + d * 64 + a * 8 + b) * 8 := by omega
      rw [e1, or6 (by omega) (by omega) (by omega), e2, or3' (by omega) (by omega) (by omega)]
      omega
    | plus d a n =>
      obtain ⟨h2, h3, h4, h5⟩ := hok
      have h2 : 0 ≤ d ∧ d ≤ 7 := h2
      have h3 : 0 ≤ a ∧ a ≤ 7 := h3
      refine cs_no (pev_len hS (Nat.ne_of_beq_eq_false rfl)) (cs_no (pev_len hS (Nat.ne_of_beq_eq_false rfl)) (cs_no (pev_len hS (Nat.ne_of_beq_eq_false rfl)) (cs_no (pev_len hS (Nat.ne_of_beq_eq_false rfl)) (cs_yes (pev_seq hS rfl (psev_cons (pev_yes rfl) (psev_cons pev_name (psev_cons pev_name (psev_cons pev_name psev_nil))))) ?_))))
      refine ⟨_, rfl, _, rfl, 2, d, a, rfl, by omega, by omega, by omega, _, rfl, _, _, rfl, rfl, _, _, rfl, rfl, iq _ ?_⟩
      show Builtin.bitOr (2 * 4096 + d * 512 + a * 64) (Builtin.bitAnd n 63) = 8192 + d * 512 + a * 64 + n % 64
      have e1 : (2 : Int) * 4096 + d * 512 + a * 64 = (128 + d * 8 + a) * 64 := by omega
      rw [bitAnd_m6, e1, or6 (by omega) (by omega) (by omega)]
      omega
    | set d n =>
      obtain ⟨h2, h3, h4⟩ := hok
      have h2 : 0 ≤ d ∧ d ≤ 7 := h2
      refine cs_no (pev_len hS (Nat.ne_of_beq_eq_false rfl)) (cs_no (pev_len hS (Nat.ne_of_beq_eq_false rfl)) (cs_yes (pev_seq hS rfl (psev_cons (pev_yes rfl) (psev_cons pev_name (psev_cons pev_name psev_nil)))) ?_))
      refine ⟨_, rfl, 3, d, 0, rfl, by omega, by omega, by omega, _, rfl, _, _, rfl, rfl, iq _ ?_⟩
      show Builtin.bitOr (3 * 4096 + d * 512 + 0 * 64) n = 12288 + d * 512 + n
      have e1 : (3 : Int) * 4096 + d * 512 + 0 * 64 = (24 + d) * 512 := by omega
      rw [e1, or9 (by omega) (by omega) (by omega)]
      omega
    | high d n =>
      obtain ⟨h2, h3, h4⟩ := hok
      have h2 : 0 ≤ d ∧ d ≤ 7 := h2
      refine cs_no (pev_len hS (Nat.ne_of_beq_eq_false rfl)) (cs_no (pev_len hS (Nat.ne_of_beq_eq_false rfl)) (cs_no (pev_seq hS rfl (psev_no (pev_str (by decide +kernel)))) (cs_yes (pev_seq hS rfl (psev_cons (pev_yes rfl) (psev_cons pev_name (psev_cons pev_name psev_nil)))) ?_)))
      refine ⟨_, rfl, 4, d, 0, rfl, by omega, by omega, by omega, _, rfl, _, _, rfl, rfl, iq _ ?_⟩
      show Builtin.bitOr (4 * 4096 + d * 512 + 0 * 64) n = 16384 + d * 512 + n
      have e1 : (4 : Int) * 4096 + d * 512 + 0 * 64 = (32 + d) * 512 := by omega
      rw [e1, or9 (by omega) (by omega) (by omega)]
      omega
    | load d a n =>
      obtain ⟨h2, h3, h4, h5⟩ := hok
      have h2 : 0 ≤ d ∧ d ≤ 7 := h2
      have h3 : 0 ≤ a ∧ a ≤ 7 := h3
      refine cs_no (pev_len hS (Nat.ne_of_beq_eq_false rfl)) (cs_no (pev_len hS (Nat.ne_of_beq_eq_false rfl)) (cs_no (pev_len hS (Nat.ne_of_beq_eq_false rfl)) (cs_no (pev_len hS (Nat.ne_of_beq_eq_false rfl)) (cs_no (pev_seq hS rfl (psev_no (pev_str (by decide +kernel))))
        (cs_yes (pev_seq hS rfl (psev_cons (pev_yes rfl) (psev_cons pev_name (psev_cons pev_name (psev_cons pev_name psev_nil))))) ?_)))))
      refine ⟨_, rfl, _, rfl, 5, d, a, rfl, by omega, by omega, by omega, _, rfl, _, _, rfl, rfl, iq _ ?_⟩
      show Builtin.bitOr (5 * 4096 + d * 512 + a * 64) n = 20480 + d * 512 + a * 64 + n
      have e1 : (5 : Int) * 4096 + d * 512 + a * 64 = (320 + d * 8 + a) * 64 := by omega
      rw [e1, or6 (by omega) (by omega) (by omega)]
      omega
    | store d a n =>
      obtain ⟨h2, h3, h4, h5⟩ := hok
      have h2 : 0 ≤ d ∧ d ≤ 7 := h2
      have h3 : 0 ≤ a ∧ a ≤ 7 := h3
      refine cs_no (pev_len hS (Nat.ne_of_beq_eq_false rfl)) (cs_no (pev_len hS (Nat.ne_of_beq_eq_false rfl)) (cs_no (pev_len hS (Nat.ne_of_beq_eq_false rfl)) (cs_no (pev_len hS (Nat.ne_of_beq_eq_false rfl)) (cs_no (pev_seq hS rfl (psev_no (pev_str (by decide +kernel)))) (cs_no (pev_seq hS rfl (psev_no (pev_str (by decide +kernel))))
        (cs_yes (pev_seq hS rfl (psev_cons (pev_yes rfl) (psev_cons pev_name (psev_cons pev_name (psev_cons pev_name psev_nil))))) ?_))))))
      refine ⟨_, rfl, _, rfl, 6, d, a, rfl, by omega, by omega, by omega, _, rfl, _, _, rfl, rfl, iq _ ?_⟩
      show Builtin.bitOr (6 * 4096 + d * 512 + a * 64) n = 24576 + d * 512 + a * 64 + n
      have e1 : (6 : Int) * 4096 + d * 512 + a * 64 = (384 + d * 8 + a) * 64 := by omega
      rw [e1, or6 (by omega) (by omega) (by omega)]
      omega
    | jump _ _ _ => cases hgo
    | call _ _ => cases hgo
abbrev KnO (P : Program) (w : World) (K : PySem.W.Frag) (mg : Str → Option Value) (base : Heap) : Prop := Kn P w K mg base CX0 2 "only_word" ["deed"] [] (spOnly K)
/-! words_of -/
def vInts (l : List Int) : List V := l.map V.int
def spWordsOf (K : PySem.W.Frag) : Sp := fun vs H Q _ => ∃ (a : Addr) (d : De) (p : Int), vs = [.ref a, .int p] ∧ SqT K H a d.vals ∧ d.ok ∧
  (d.reached p → ∀ q H', Same H H' → H' q = some (.tup (vInts (d.words p))) → Q (.ref q) H') ∧ (¬ d.reached p → Q .non H)
abbrev KnG (P : Program) (w : World) (K : PySem.W.Frag) (mg : Str → Option Value) (base : Heap) : Prop := Kn P w K mg base CX0 2 "going_words" ["near_form", "when", "goal", "far", "place"] [] spGoing
abbrev N_words_of : List Str := ["deed", "place", "when", "goal", "far"]
theorem sc_words_of : FnScope ["deed", "place", "when", "goal", "far"] ["deed", "place"] (defScope s_words_of) := ⟨rfl, rfl, rfl, by decide +kernel, rfl, by decide +kernel, by decide +kernel⟩
theorem ok_words_of (F : FnP K "words_of" s_words_of dvs f fd) (C : Con w K mg odd) (k_going_words : KnG P w K mg base) (k_only_word : KnO P w K mg base) : FnOk P w K mg base CX0 3 f fd ["deed", "place"] (spWordsOf K) := by
  refine F.ok sc_words_of (fun vs H Q E h => ?_) (fun cdv A outer s H vs Q E hr h => ?_)
  · obtain ⟨a, d, p, rfl, _⟩ := h
    rfl
  · obtain ⟨a, d, p, rfl, hS, hok, q1, q2⟩ := h
    have g_TIMES := C.g_TIMES
    refine ⟨_, PSs.nox (pss_one (ps_match (pv 0) (pcs_cons sc_words_of.nd (pp_seq rfl (pps_cons (pp_val pe_str) (pps_cons (pp_name (i := 2) rfl (Or.inl rfl)) (pps_cons (pp_name (i := 3) rfl (Or.inl rfl)) (pps_cons (pp_name (i := 4) rfl (Or.inl rfl)) pps_nil))))) (pss_one (ps_ret (pk k_going_words hr (by decide) rfl pass0 (pa_cons pe_int (pa_cons (pe_bm PySem.F.plainAttrs_tuple PySem.F.slot_tuple_index PySem.F.type_tuple_index mt_tup_index (pe_glob (v := .ref (He.ga K "TIMES")) rfl g_TIMES rfl) (pa_cons (pv 2) pa_nil)) (pa_cons (pv 3) (pa_cons (pv 4) (pa_cons (pv 1) pa_nil))))))))
      (pcs_cons sc_words_of.nd (pp_seq rfl (pps_cons (pp_val pe_str) (pps_cons (pp_name (i := 3) rfl (Or.inl rfl)) (pps_cons (pp_name (i := 4) rfl (Or.inl rfl)) pps_nil)))) (pss_one (ps_ret (pk k_going_words hr (by decide) rfl pass0 (pa_cons pe_int (pa_cons pe_int (pa_cons (pv 3) (pa_cons (pv 4) (pa_cons (pv 1) pa_nil))))))))
      (pcs_cons sc_words_of.nd pp_wild (pss_one (ps_ret (pe_tup (pa_cons (pk k_only_word hr (by decide) rfl pass0 (pa_cons (pv 0) pa_nil)) pa_nil))))
      pcs_nil))))), ?_⟩
    refine ⟨_, rfl, ?_⟩
    have plain : d.goes = false → PEv (tPseq K 4 (tPcons (tPv (.str "jump")) (tPcons (tPn 2) (tPcons (tPn 3) (tPcons (tPn 4) tPnil))))) (.ref a) H none ∧ PEv (tPseq K 3 (tPcons (tPv (.str "call")) (tPcons (tPn 3) (tPcons (tPn 4) tPnil)))) (.ref a) H none := fun hg => by
      cases d with
      | sgl k => exact ⟨pev_len hS (Nat.ne_of_beq_eq_false rfl), pev_len hS (Nat.ne_of_beq_eq_false rfl)⟩
      | reg k a => exact ⟨pev_len hS (Nat.ne_of_beq_eq_false rfl), pev_len hS (Nat.ne_of_beq_eq_false rfl)⟩
      | sum k d a b => exact ⟨pev_seq hS rfl (psev_no (pev_str (sm_ne k hok.1).2.2.2.1)), pev_len hS (Nat.ne_of_beq_eq_false rfl)⟩
      | plus d a n => exact ⟨pev_seq hS rfl (psev_no (pev_str (by decide +kernel))), pev_len hS (Nat.ne_of_beq_eq_false rfl)⟩
      | set d n => exact ⟨pev_len hS (Nat.ne_of_beq_eq_false rfl), pev_seq hS rfl (psev_no (pev_str (by decide +kernel)))⟩
      | high d n => exact ⟨pev_len hS (Nat.ne_of_beq_eq_false rfl), pev_seq hS rfl (psev_no (pev_str (by decide +kernel)))⟩
      | load d a n => exact ⟨pev_seq hS rfl (psev_no (pev_str (by decide +kernel))), pev_len hS (Nat.ne_of_beq_eq_false rfl)⟩
      | store d a n => exact ⟨pev_seq hS rfl (psev_no (pev_str (by decide +kernel))), pev_len hS (Nat.ne_of_beq_eq_false rfl)⟩
      | jump _ _ _ => cases hg
      | call _ _ => cases hg
    by_cases hg : d.goes = false
    · obtain ⟨n1, n2⟩ := plain hg
      refine cs_no n1 (cs_no n2 (cs_yes pev_wild ?_))
      refine ⟨_, rfl, a, d, rfl, hS, hok, hg, line5 (by simp), laid fun q H1 _ e h1 => q1 ?_ q H1 e ?_⟩
      · cases d <;> first | trivial | cases hg
      · rw [h1, words_word hg]
        rfl
    cases d with
    | jump k g far =>
      obtain ⟨h1, h2, h3⟩ := hok
      refine cs_yes (pev_seq hS rfl (psev_cons (pev_yes rfl) (psev_cons pev_name (psev_cons pev_name (psev_cons pev_name psev_nil))))) ?_
      refine ⟨(C.tm H).2, _, rfl, _, TM, nm TM k, k, rfl, rfl, (C.tm H).1, (tm_at k h1).1, (tm_at k h1).2, _, rfl, _, rfl, _, rfl, 7, k, g, far, p, rfl, by omega, by omega, fun e q H1 s1 z => ?_, fun e n q H1 s1 z => ?_, fun e n => ?_⟩
      · subst e
        exact q1 trivial q H1 s1 (z.trans (congrArg (fun y => some (HO.tup [V.int y, V.int g])) (by omega)))
      · subst e
        exact q1 n q H1 s1 (z.trans (congrArg (fun y => some (HO.tup [V.int y])) (by omega)))
      · subst e
        exact q2 n
    | call g far =>
      refine cs_no (pev_len hS (Nat.ne_of_beq_eq_false rfl)) (cs_yes (pev_seq hS rfl (psev_cons (pev_yes rfl) (psev_cons pev_name (psev_cons pev_name psev_nil)))) ?_)
      refine ⟨_, rfl, _, rfl, _, rfl, 9, 0, g, far, p, rfl, by omega, by omega, fun e q H1 s1 z => ?_, fun e n q H1 s1 z => ?_, fun e n => ?_⟩
      · subst e
        exact q1 trivial q H1 s1 (z.trans (congrArg (fun y => some (HO.tup [V.int y, V.int g])) (by omega)))
      · subst e
        exact q1 n q H1 s1 (z.trans (congrArg (fun y => some (HO.tup [V.int y])) (by omega)))
      · subst e
        exact q2 n
    | _ => exact absurd rfl hg
end
end Bm
set_option maxHeartbeats 800000
namespace Bm
open PySem PySem.Spec PyProof.Rows L2
/-! values that a deed may be told with: numbers, truths, texts, the empty tuple -/
inductive OkV (K : PySem.W.Frag) (H : Hp) : V → Prop
  | int (i : Int) : OkV K H (.int i)
  | bl (b : Bool) : OkV K H (.bl b)
  | str (x : Str) : OkV K H (.str x)
  | unit {a : Addr} (h : SqT K H a []) : OkV K H (.ref a)
theorem OkV.same {K : PySem.W.Frag} {H H' : Hp} {v : V} (e : Same H H') (h : OkV K H v) : OkV K H' v := by
  cases h with
  | int i => exact .int i
  | bl b => exact .bl b
  | str x => exact .str x
  | unit h => exact .unit (Same.tup e h)
def numB (v : V) (lo hi : Int) : Bool := match v with
  | .int i => decide (lo ≤ i) && decide (i ≤ hi)
  | _ => false
def isBl : V → Bool
  | .bl _ => true
  | _ => false
def isTm : V → Bool
  | .str s => TM.any fun z => z == s
  | _ => false
def partB (kind : Str) (v : V) : Bool := if kind = "when" then isTm v else if kind = "far" then isBl v else match ST.lookup kind with
  | some r => numB v r.1 r.2
  | none => false
def deedB : List V → Bool
  | .str z :: r => match PT.lookup z with
    | some ks => decide (r.length = ks.length) && ((ks.zip r).all fun p => partB p.1 p.2)
    | none => false
  | _ => false
section
variable {P : Program} {w : World} {K : PySem.W.Frag} {mg : Str → Option Value} {base : Heap} {f : Addr} {fd : FuncData} {dvs : List V} {odd : List Str}
/-! is_number -/
def spNum (K : PySem.W.Frag) : Sp := fun vs H Q _ => ∃ (v : V) (lo hi : Int), vs = [v, .int lo, .int hi] ∧ OkV K H v ∧ Q (.bl (numB v lo hi)) H
abbrev N_is_number : List Str := ["thing", "least", "most"]
theorem sc_is_number : FnScope ["thing", "least", "most"] ["thing", "least", "most"] (defScope s_is_number) := ⟨rfl, rfl, rfl, by decide +kernel, rfl, by decide +kernel, by decide +kernel⟩
theorem ok_num (F : FnP K "is_number" s_is_number dvs f fd) (g_isinstance : mg "isinstance" = none) (g_bool : mg "bool" = none) (g_int : mg "int" = none) : FnOk P w K mg base CX0 1 f fd ["thing", "least", "most"] (spNum K) := by
  refine F.ok sc_is_number (fun vs H Q E h => ?_) (fun cdv A outer s H vs Q E hr h => ?_)
  · obtain ⟨v, lo, hi, rfl, _⟩ := h
    rfl
  · obtain ⟨v, lo, hi, rfl, hv, q⟩ := h
    refine ⟨_, PSs.nox (pss_cons (ps_if (PW.pt (pw_or (pt_val (pe_callB call_isi rfl g_isinstance (by decide +kernel) (pa_cons (pv 0) (pa_cons (pe_bltn (v := .ty "bool") rfl g_bool (by decide +kernel) rfl) pa_nil)))) (pw_or1 (pt_not (pt_val (pe_callB call_isi rfl g_isinstance (by decide +kernel) (pa_cons (pv 0) (pa_cons (pe_bltn (v := .ty "int") rfl g_int (by decide +kernel) rfl) pa_nil)))))))) (pss_one (ps_ret pe_bl)) pss_nil)
      (pss_one (ps_ret (pe_chain op_le op_le (pv 1) (pv 0) (pv 2))))), ?_⟩
    refine ⟨_, rfl, ?_⟩
    cases hv with
    | int i =>
      refine ⟨_, _, _, _, _, rfl, .ty _, Knd.ty (.int i), kit_ty (r := false) (by decide +kernel), _, rfl, iteF ⟨_, rfl, _, _, _, _, _, rfl, .ty _, Knd.ty (.int i), kit_ty (r := true) (by decide +kernel), _, rfl, iteF ?_⟩⟩
      refine ⟨_, rfl, _, rfl, _, _, rfl, rfl, _, rfl, ?_⟩
      by_cases c : lo ≤ i
      · rw [decide_eq_true c]
        refine iteT ⟨_, rfl, _, _, rfl, rfl, ?_⟩
        have e : numB (.int i) lo hi = decide (i ≤ hi) := by
          show (decide (lo ≤ i) && decide (i ≤ hi)) = decide (i ≤ hi)
          rw [decide_eq_true c, Bool.true_and]
        rw [e] at q
        exact q
      · rw [decide_eq_false c]
        have e : numB (.int i) lo hi = false := by
          show (decide (lo ≤ i) && decide (i ≤ hi)) = false
          rw [decide_eq_false c, Bool.false_and]
        rw [e] at q
        exact iteF q
    | bl b => exact ⟨_, _, _, _, _, rfl, .ty _, Knd.ty (.bl b), kit_ty (r := true) (by decide +kernel), _, rfl, iteT q⟩
    | str x => exact ⟨_, _, _, _, _, rfl, .ty _, Knd.ty (.str x), kit_ty (r := false) (by decide +kernel), _, rfl, iteF ⟨_, rfl, _, _, _, _, _, rfl, .ty _, Knd.ty (.str x), kit_ty (r := false) (by decide +kernel), _, rfl, iteT q⟩⟩
    | unit h => exact ⟨_, _, _, _, _, rfl, .ty _, Knd.ty (.tup h), kit_ty (r := false) (by decide +kernel), _, rfl, iteF ⟨_, rfl, _, _, _, _, _, rfl, .ty _, Knd.ty (.tup h), kit_ty (r := false) (by decide +kernel), _, rfl, iteT q⟩⟩
abbrev KnN (P : Program) (w : World) (K : PySem.W.Frag) (mg : Str → Option Value) (base : Heap) : Prop := Kn P w K mg base CX0 1 "is_number" ["thing", "least", "most"] [] (spNum K)
/-! is_part -/
theorem tm_shaped : SeqAt.shaped (.tuple (TM.map PyData.str)) = true := by decide +kernel
theorem dpAll_strs {H : Hp} : ∀ l : List Str, DpAll K H (l.map V.str) (l.map PyData.str)
  | [] => .nil
  | x :: l => .cons (.str x) (dpAll_strs l)
theorem tm_in {H : Hp} {v : V} {p : Addr} {Q : VK} (h : OkV K H v) (hp : SqT K H p (TM.map V.str)) (q : Q (.bl (isTm v)) H) : rIn2 K v (.ref p) H Q := by
  cases h with
  | int i => exact .inl ⟨p, _, rfl, .inr hp, rfl, flat_strs TM, q⟩
  | bl b => exact .inl ⟨p, _, rfl, .inr hp, rfl, flat_strs TM, by cases b <;> exact q⟩
  | str x =>
    refine .inl ⟨p, _, rfl, .inr hp, rfl, flat_strs TM, ?_⟩
    have e : inV (.str x) (TM.map V.str) = isTm (.str x) := by
      unfold inV isTm
      rw [List.any_map]
      rfl
    show Q (.bl (inV (.str x) (TM.map V.str))) H
    rw [e]
    exact q
  | unit h =>
    refine .inr ⟨.tuple [], _, .tup h .nil, .tup hp (dpAll_strs TM), by decide +kernel, tm_shaped, ?_⟩
    exact q
def spPart (K : PySem.W.Frag) : Sp := fun vs H Q _ => ∃ (z : Str) (v : V), vs = [.str z, v] ∧ OkV K H v ∧ (z = "when" ∨ z = "far" ∨ ∃ r ∈ ST, r.1 = z) ∧ Q (.bl (partB z v)) H
abbrev N_is_part : List Str := ["kind", "thing", "least", "most"]
theorem sc_is_part : FnScope ["kind", "thing", "least", "most"] ["kind", "thing"] (defScope s_is_part) := ⟨rfl, rfl, rfl, by decide +kernel, rfl, by decide +kernel, by decide +kernel⟩
theorem st_at : ∀ r ∈ ST, ST.lookup r.1 = some r.2 ∧ r.1 ≠ "when" ∧ r.1 ≠ "far" := by decide +kernel
theorem ok_part (F : FnP K "is_part" s_is_part dvs f fd) (C : Con w K mg odd) (g_isinstance : mg "isinstance" = none) (g_bool : mg "bool" = none) (k_is_number : KnN P w K mg base) : FnOk P w K mg base CX0 2 f fd ["kind", "thing"] (spPart K) := by
  refine F.ok sc_is_part (fun vs H Q E h => ?_) (fun cdv A outer s H vs Q E hr h => ?_)
  · obtain ⟨z, v, rfl, _⟩ := h
    rfl
  · obtain ⟨z, v, rfl, hv, hz, q⟩ := h
    have g_TIMES := C.g_TIMES
    have g_SPANS := C.g_SPANS
    obtain ⟨es, n, D⟩ := C.spans
    refine ⟨_, PSs.nox (pss_cons (ps_if (pt_cmpR op_eq (pv 0) pe_str (nomark _)) (pss_one (ps_ret (pe_cmpR (op_in2 (hu65 hr)) (pv 1) (pe_glob (v := .ref (He.ga K "TIMES")) rfl g_TIMES rfl) rfl))) pss_nil)
      (pss_cons (ps_if (pt_cmpR op_eq (pv 0) pe_str (nomark _)) (pss_one (ps_ret (pe_callB call_isi rfl g_isinstance (by decide +kernel) (pa_cons (pv 1) (pa_cons (pe_bltn (v := .ty "bool") rfl g_bool (by decide +kernel) rfl) pa_nil))))) pss_nil)
      (pss_cons (ps_asg (pe_ix ix_kdict (pe_glob (v := .ref (He.ga K "SPANS")) rfl g_SPANS rfl) (pv 0) (fun _ _ => rfl)) (pg_tup rfl (pgs_cons (pg_name (i := 2) sc_is_part.nd rfl (Or.inl rfl)) (pgs_cons (pg_name (i := 3) sc_is_part.nd rfl (Or.inl rfl)) pgs_nil))))
      (pss_one (ps_ret (pk k_is_number hr (by decide) rfl pass0 (pa_cons (pv 1) (pa_cons (pv 2) (pa_cons (pv 3) pa_nil))))))))), ?_⟩
    refine ⟨_, rfl, rfl, _, rfl, ?_⟩
    by_cases h1 : z = "when"
    · subst h1
      refine iteT ?_
      have e : partB "when" v = isTm v := if_pos rfl
      rw [e] at q
      exact ⟨_, rfl, tm_in hv (C.tm H).1 q⟩
    · rw [decide_eq_false (fun e => h1 (V.str.inj e))]
      refine iteF ⟨_, rfl, rfl, _, rfl, ?_⟩
      by_cases h2 : z = "far"
      · subst h2
        refine iteT ⟨_, rfl, ?_⟩
        have e : partB "far" v = isBl v := (if_neg (by decide +kernel)).trans (if_pos rfl)
        rw [e] at q
        cases hv with
        | int i => exact ⟨_, _, _, _, _, rfl, .ty _, Knd.ty (.int i), kit_ty (r := false) (by decide +kernel), q⟩
        | bl b => exact ⟨_, _, _, _, _, rfl, .ty _, Knd.ty (.bl b), kit_ty (r := true) (by decide +kernel), q⟩
        | str x => exact ⟨_, _, _, _, _, rfl, .ty _, Knd.ty (.str x), kit_ty (r := false) (by decide +kernel), q⟩
        | unit h => exact ⟨_, _, _, _, _, rfl, .ty _, Knd.ty (.tup h), kit_ty (r := false) (by decide +kernel), q⟩
      · rw [decide_eq_false (fun e => h2 (V.str.inj e))]
        refine iteF ?_
        obtain ⟨r, hr1, rfl⟩ : ∃ r ∈ ST, r.1 = z := by
          rcases hz with e | e | e
          · exact absurd e h1
          · exact absurd e h2
          · exact e
        obtain ⟨t, e1, e2⟩ := C.span r hr1
        refine ⟨_, rfl, _, _, .ref t, rfl, rfl, ⟨es, n, _, D.at_, D.lit, e1, rfl⟩, t, _, rfl, e2 H, rfl, _, _, rfl, _, _, rfl, rfl, ?_⟩
        refine ⟨_, rfl, _, rfl, _, rfl, v, r.2.1, r.2.2, rfl, hv, ?_⟩
        have e : partB r.1 v = numB v r.2.1 r.2.2 := by
          unfold partB
          rw [if_neg h1, if_neg h2, (st_at r hr1).1]
        rw [← e]
        exact q
end
end Bm
set_option maxHeartbeats 800000
namespace Bm
open PySem PySem.Spec PyProof.Rows L2
section
variable {P : Program} {w : World} {K : PySem.W.Frag} {mg : Str → Option Value} {base : Heap} {f : Addr} {fd : FuncData} {dvs : List V} {odd : List Str}
/-! is_deed -/
abbrev KnP (P : Program) (w : World) (K : PySem.W.Frag) (mg : Str → Option Value) (base : Heap) : Prop := Kn P w K mg base CX0 2 "is_part" ["kind", "thing"] [] (spPart K)
def spDeed (K : PySem.W.Frag) (odd : List Str) : Sp := fun vs H Q _ => ∃ (a : Addr) (xs : List V), vs = [.ref a] ∧ SqT K H a xs ∧ (∀ x ∈ xs, OkV K H x) ∧ (∀ z r, xs = .str z :: r → (∃ ks, (z, ks) ∈ PT) ∨ z ∈ odd) ∧
  ∀ H', Same H H' → Q (.bl (deedB xs)) H'
abbrev N_is_deed : List Str := ["thing", "name", "kinds", "kind", "part"]
theorem sc_is_deed : FnScope ["thing", "name", "kinds", "kind", "part"] ["thing"] (defScope s_is_deed) := ⟨rfl, rfl, rfl, by decide +kernel, rfl, by decide +kernel, by decide +kernel⟩
theorem pt_at : ∀ r ∈ PT, PT.lookup r.1 = some r.2 := by decide +kernel
theorem pt_len : ∀ r ∈ PT, r.2.length ≤ 3 := by decide +kernel
theorem line_lt {n : Nat} (h : n < 100000) : n < sizeLine := Nat.lt_of_lt_of_le h (by decide)
theorem pt_kinds : ∀ r ∈ PT, ∀ z ∈ r.2, z = "when" ∨ z = "far" ∨ ∃ r ∈ ST, r.1 = z := by decide +kernel
theorem ok_deed (F : FnP K "is_deed" s_is_deed dvs f fd) (C : Con w K mg odd) (hodd : ∀ x ∈ odd, PT.lookup x = none) (g_isinstance : mg "isinstance" = none) (g_tuple : mg "tuple" = none) (g_str : mg "str" = none) (g_len : mg "len" = none)
    (g_all : mg "all" = none) (g_zip : mg "zip" = none) (k_is_part : KnP P w K mg base) : FnOk P w K mg base CX0 3 f fd ["thing"] (spDeed K odd) := by
  refine F.ok sc_is_deed (fun vs H Q E h => ?_) (fun cdv A outer s H vs Q E hr h => ?_)
  · obtain ⟨a, xs, rfl, _⟩ := h
    rfl
  · obtain ⟨a, xs, rfl, hS, hok, hodd', q⟩ := h
    have g_PARTS := C.g_PARTS
    obtain ⟨es, n, D_PARTS⟩ := C.parts
    refine ⟨_, PSs.nox (pss_cons (ps_if (PW.pt (pw_or (pt_not (pt_val (pe_callB call_isi rfl g_isinstance (by decide +kernel) (pa_cons (pv 0) (pa_cons (pe_bltn (v := .ty "tuple") rfl g_tuple (by decide +kernel) rfl) pa_nil))))) (pw_or1 (pt_cmpR op_eq (pe_callB call_len rfl g_len boot_len (pa_cons (pv 0) pa_nil)) pe_int (nomark _))))) (pss_one (ps_ret pe_bl)) pss_nil)
      (pss_cons (ps_set (i := 1) sc_is_deed.nd rfl (Or.inl rfl) (pe_ix ix_tup (pv 0) pe_int (fun _ _ => rfl)))
      (pss_cons (ps_if (PW.pt (pw_or (pt_not (pt_val (pe_callB call_isi rfl g_isinstance (by decide +kernel) (pa_cons (pv 1) (pa_cons (pe_bltn (v := .ty "str") rfl g_str (by decide +kernel) rfl) pa_nil))))) (pw_or1 (pt_cmpR (op_notIn_kd D_PARTS) (pv 1) (pe_glob (v := .ref (He.ga K "PARTS")) rfl g_PARTS rfl) rfl)))) (pss_one (ps_ret pe_bl)) pss_nil)
      (pss_cons (ps_set (i := 2) sc_is_deed.nd rfl (Or.inl rfl) (pe_ix ix_kdict (pe_glob (v := .ref (He.ga K "PARTS")) rfl g_PARTS rfl) (pv 1) (fun _ _ => rfl)))
      (pss_cons (ps_if (pt_cmpR op_ne (pe_callB call_len rfl g_len boot_len (pa_cons (pv 0) pa_nil)) (pe_op op_add (pe_callB call_len rfl g_len boot_len (pa_cons (pv 2) pa_nil)) pe_int) (nomark _)) (pss_one (ps_ret pe_bl)) pss_nil)
      (pss_one (ps_ret (pe_callB (cr_all rfl) rfl g_all (by decide +kernel) (pa_cons (pe_lc (own := [("kind", 3), ("part", 4)]) (g := gTup K 2 (gCons (gName 3) (gCons (gName 4) (gNil)))) rfl sc_is_deed.nd (RZ.pi_zipA rfl g_zip (pa_cons (pv 2) (pa_cons (pe_slice sl_tupA (pv 0) (po_some pe_int) po_none) pa_nil))) (blkOk_by (own := [("kind", 3), ("part", 4)]) (N := N_is_deed) (sc := defScope s_is_deed) (by decide +kernel)) (fun _ _ _ _ _ => (pg_tup rfl (pgs_cons (pg_name (i := 3) sc_is_deed.nd rfl (Or.inl rfl)) (pgs_cons (pg_name (i := 4) sc_is_deed.nd rfl (Or.inl rfl)) pgs_nil)))) (fun _ _ _ _ _ => pts_nil) (fun _ _ _ _ _ => (pk k_is_part hr (by decide) rfl pass0 (pa_cons (pv 3) (pa_cons (pv 4) pa_nil))))) pa_nil))))))))), ?_⟩
    refine ⟨_, rfl, _, _, _, _, _, rfl, .ty _, Knd.ty (.tup hS), kit_ty (r := true) (by decide +kernel), _, rfl, iteF ?_⟩
    cases xs with
    | nil => exact ⟨_, rfl, _, _, rfl, .inr ⟨_, hS, rfl⟩, rfl, _, rfl, iteT (q H (Same.refl H))⟩
    | cons x r =>
      refine ⟨_, rfl, _, _, rfl, .inr ⟨_, hS, rfl⟩, rfl, _, rfl, ?_⟩
      have nz : decide (V.int ((x :: r).length : Int) = V.int 0) = false := decide_eq_false fun z => by
        have z1 := V.int.inj z
        rw [List.length_cons] at z1
        omega
      rw [nz]
      refine iteF ⟨_, rfl, a, _, _, _, rfl, rfl, hS, at0, ?_⟩
      have hx := hok x (List.mem_cons_self ..)
      cases hx with
      | int i => exact ⟨_, rfl, _, _, _, _, _, rfl, .ty _, Knd.ty (.int i), kit_ty (r := false) (by decide +kernel), _, rfl, iteT (q H (Same.refl H))⟩
      | bl b => exact ⟨_, rfl, _, _, _, _, _, rfl, .ty _, Knd.ty (.bl b), kit_ty (r := false) (by decide +kernel), _, rfl, iteT (q H (Same.refl H))⟩
      | unit h => exact ⟨_, rfl, _, _, _, _, _, rfl, .ty _, Knd.ty (.tup h), kit_ty (r := false) (by decide +kernel), _, rfl, iteT (q H (Same.refl H))⟩
      | str z =>
        refine ⟨_, rfl, _, _, _, _, _, rfl, .ty _, Knd.ty (.str z), kit_ty (r := true) (by decide +kernel), _, rfl, iteF ⟨_, rfl, z, ?_⟩⟩
        by_cases hz : ∃ ks, (z, ks) ∈ PT
        · obtain ⟨ks, hks⟩ := hz
          obtain ⟨t, e1, e2⟩ := C.part _ hks
          have el : PT.lookup z = some ks := pt_at _ hks
          refine ⟨_, rfl, rfl, e1, _, rfl, iteF ?_⟩
          refine ⟨_, rfl, _, _, .ref t, rfl, rfl, ⟨es, n, _, D_PARTS.at_, D_PARTS.lit, e1, rfl⟩, ?_⟩
          refine ⟨_, rfl, _, _, rfl, .inr ⟨_, hS, rfl⟩, _, rfl, _, _, rfl, .inr ⟨_, e2 H, rfl⟩, _, _, rfl, rfl, rfl, _, rfl, ?_⟩
          have ed : deedB (.str z :: r) = (decide (r.length = ks.length) && ((ks.zip r).all fun p => partB p.1 p.2)) := by
            show (match PT.lookup z with
              | some ks => decide (r.length = ks.length) && ((ks.zip r).all fun p => partB p.1 p.2)
              | none => false) = _
            rw [el]
          have ec : decide (V.int ((V.str z :: r).length : Int) = V.int (((ks.map V.str).length : Nat) + 1 : Int)) = decide (r.length = ks.length) := by
            rw [List.length_cons, List.length_map]
            exact decide_eq_decide.mpr ⟨fun h => by have h2 := V.int.inj h; omega, fun h => congrArg V.int (by omega)⟩
          rw [ec]
          by_cases hl : r.length = ks.length
          · rw [decide_eq_true hl]
            refine iteF ?_
            refine ⟨_, rfl, _, rfl, _, rfl, a, _, rfl, hS, fun w => absurd w (not_whole_tail _ _), fun _ b hb => ?_⟩
            have s1 : Same H (upd H b (.tup (cutV (.str z :: r) (some 1) none))) := Same.add hb
            have h1 : (upd H b (.tup (cutV (.str z :: r) (some 1) none))) b = some (.tup r) := upd_same.trans (congrArg (fun l => some (HO.tup l)) (cut_tail _ _))
            generalize upd H b (.tup (cutV (.str z :: r) (some 1) none)) = H1 at s1 h1 ⊢
            refine ⟨t, b, ks.map V.str, r, rfl, .inr ⟨e2 H1, SqT.of h1, fun D hD => ?_⟩⟩
            have hlen : r.length = min (ks.map V.str).length r.length := by
              rw [List.length_map]
              omega
            refine lc_it (walk_zipT hlen) (fun i H2 => Same H1 H2 ∧ H2 D = some (.lst (((ks.zip r).take i).map fun p => V.bl (partB p.1 p.2)))) ⟨Same.add hD, upd_same⟩ (fun i H2 _ p => ⟨e2 H2, Same.tup p.1 (SqT.of h1)⟩) ?_ ?_
            · rintro i v H2 H3 hi ⟨p1, p2⟩ ⟨T, x, y, rfl, hT, rfl, hx, hy⟩
              refine ⟨T, _, rfl, SqT.of upd_same, rfl, _, _, rfl, _, _, rfl, rfl, rfl, ?_⟩
              have hx' : (ks.map V.str)[i]? = some x := hx
              rw [List.getElem?_map] at hx'
              cases ek : ks[i]? with
              | none => rw [ek] at hx'; cases hx'
              | some k =>
                rw [ek] at hx'
                have exk : x = V.str k := (Option.some.inj hx').symm
                subst exk
                have hy' : r[i]? = some y := hy
                have s3 : Same H1 (upd H2 T (.tup [V.str k, y])) := Same.trans p1 (Same.add hT)
                have oky : OkV K (upd H2 T (.tup [V.str k, y])) y := OkV.same (Same.trans s1 s3) (hok y (List.mem_cons_of_mem _ (List.mem_of_getElem? hy')))
                refine ⟨_, rfl, _, rfl, k, y, rfl, oky, pt_kinds _ hks k (List.mem_of_getElem? ek), ?_⟩
                have ez : (ks.zip r)[i]? = some (k, y) := List.getElem?_zip_eq_some.mpr ⟨ek, hy'⟩
                refine ⟨_, Same.add hT D _ p2, line_lt ?_, Same.mut s3 hD, ?_⟩
                · rw [List.length_map, List.length_take, List.length_zip, hl]
                  have := (List.getElem?_eq_some_iff.mp ek).1
                  have h6 : ks.length ≤ 3 := pt_len _ hks
                  omega
                · rw [upd_same, take_succ' ez, List.map_append]
                  rfl
            · rintro H2 ⟨p1, p2⟩
              have ez : (ks.zip r).length = r.length := by
                rw [List.length_zip]
                omega
              rw [← ez, List.take_length] at p2
              have p3 : H2 D = some (.lst (((ks.zip r).map fun p => partB p.1 p.2).map V.bl)) := by
                rw [p2, List.map_map]
                rfl
              refine ⟨D, _, rfl, SqL.of p3, ?_⟩
              have e5 : deedB (.str z :: r) = ((ks.zip r).map fun p => partB p.1 p.2).all id := by
                rw [ed, decide_eq_true hl, Bool.true_and, List.all_map]
                rfl
              rw [← e5]
              exact q H2 (Same.trans s1 p1)
          · rw [decide_eq_false hl]
            refine iteT ?_
            rw [ed, decide_eq_false hl, Bool.false_and] at q
            exact q H (Same.refl H)
        · have ho : z ∈ odd := by
            rcases hodd' z r rfl with h | h
            · exact absurd h hz
            · exact h
          refine ⟨_, rfl, rfl, C.odd z ho, _, rfl, iteT ?_⟩
          have ed : deedB (.str z :: r) = false := by
            show (match PT.lookup z with
              | some ks => decide (r.length = ks.length) && ((ks.zip r).all fun p => partB p.1 p.2)
              | none => false) = _
            rw [hodd z ho]
          rw [ed] at q
          exact q H (Same.refl H)
end
end Bm
set_option maxHeartbeats 800000
namespace Bm
open PySem PySem.Spec PyProof.Rows L2
/-! what a list of values that is a deed looks like -/
theorem numB_iff {v : V} {lo hi : Int} (h : numB v lo hi = true) : ∃ i, v = .int i ∧ lo ≤ i ∧ i ≤ hi := by
  cases v with
  | int i =>
    obtain ⟨h1, h2⟩ := Bool.and_eq_true_iff.mp (show (decide (lo ≤ i) && decide (i ≤ hi)) = true from h)
    exact ⟨i, rfl, of_decide_eq_true h1, of_decide_eq_true h2⟩
  | _ => cases h
theorem isBl_iff {v : V} (h : isBl v = true) : ∃ b, v = .bl b := by
  cases v with
  | bl b => exact ⟨b, rfl⟩
  | _ => cases h
theorem isTm_iff {v : V} (h : isTm v = true) : ∃ k, k < 7 ∧ v = .str (nm TM k) := by
  cases v with
  | str s =>
    obtain ⟨z, hz, e⟩ := List.any_eq_true.mp (show (TM.any fun z => z == s) = true from h)
    have e1 : z = s := eq_of_beq e
    subst e1
    have : ∀ z ∈ TM, ∃ k, k < 7 ∧ z = nm TM k := by decide +kernel
    obtain ⟨k, h1, h2⟩ := this z hz
    exact ⟨k, h1, by rw [← h2]⟩
  | _ => cases h
theorem part_reg {v : V} (h : partB "reg" v = true) : ∃ i, v = .int i ∧ r3 i := numB_iff h
theorem part_k {z : Str} {v : V} (r : Int × Int) (e : ∀ v, partB z v = numB v r.1 r.2) (h : partB z v = true) : ∃ i, v = .int i ∧ r.1 ≤ i ∧ i ≤ r.2 := by
  rw [e v] at h
  exact numB_iff h
theorem zip1 {k : Str} {r : List V} {ks : List Str} (hl : r.length = (k :: ks).length) (h : ((k :: ks).zip r).all (fun p => partB p.1 p.2) = true) : ∃ v r', r = v :: r' ∧ r'.length = ks.length ∧ partB k v = true ∧ (ks.zip r').all (fun p => partB p.1 p.2) = true := by
  cases r with
  | nil => cases hl
  | cons v r' =>
    obtain ⟨h1, h2⟩ := Bool.and_eq_true_iff.mp (show (partB k v && (ks.zip r').all fun p => partB p.1 p.2) = true from h)
    exact ⟨v, r', rfl, Nat.succ.inj hl, h1, h2⟩
theorem nil_of {r : List V} {ks : List Str} (h : ks = []) (hl : r.length = ks.length) : r = [] := by
  subst h
  cases r with
  | nil => rfl
  | cons _ _ => cases hl
theorem deed_of {xs : List V} (h : deedB xs = true) : ∃ d : De, d.ok ∧ xs = d.vals := by
  cases xs with
  | nil => cases h
  | cons x r =>
    cases x with
    | str z =>
      have h : (match PT.lookup z with
        | some ks => decide (r.length = ks.length) && ((ks.zip r).all fun p => partB p.1 p.2)
        | none => false) = true := h
      cases e : PT.lookup z with
      | none => rw [e] at h; cases h
      | some ks =>
        rw [e] at h
        obtain ⟨h1, h2⟩ := Bool.and_eq_true_iff.mp (show (decide (r.length = ks.length) && ((ks.zip r).all fun p => partB p.1 p.2)) = true from h)
        have h1 := of_decide_eq_true h1
        have hm : (z, ks) ∈ PT := by
          have : ∀ (l : List (Str × List Str)) (z : Str) (ks : List Str), l.lookup z = some ks → (z, ks) ∈ l := by
            intro l
            induction l with
            | nil => intro z ks h; cases h
            | cons p l ih =>
              obtain ⟨a, b⟩ := p
              intro z ks h
              rw [List.lookup_cons] at h
              by_cases c : z == a
              · rw [c] at h
                have e1 := eq_of_beq c
                have e2 : b = ks := Option.some.inj h
                rw [e1, ← e2]
                exact List.mem_cons_self ..
              · have c2 : (z == a) = false := by simpa using c
                rw [c2] at h
                exact List.mem_cons_of_mem _ (ih z ks h)
          exact this _ _ _ e
        clear e h
        have cases_ : ∀ p ∈ PT, (∃ k, k < 3 ∧ p = ((nm SG k, []) : Str × List Str)) ∨ (∃ k, k < 7 ∧ 3 ≤ k ∧ p = ((nm SG k, ["reg"]) : Str × List Str)) ∨ (∃ k, k < 8 ∧ p = ((nm SM k, ["reg", "reg", "reg"]) : Str × List Str)) ∨ p = (("plus", ["reg", "reg", "signed six"]) : Str × List Str) ∨
            p = (("set", ["reg", "nine"]) : Str × List Str) ∨ p = (("high", ["reg", "seven"]) : Str × List Str) ∨ p = (("load", ["reg", "reg", "six"]) : Str × List Str) ∨ p = (("store", ["reg", "reg", "six"]) : Str × List Str) ∨
            p = (("jump", ["when", "goal", "far"]) : Str × List Str) ∨ p = (("call", ["goal", "far"]) : Str × List Str) := by decide +kernel
        rcases cases_ _ hm with ⟨k, hk, e⟩ | ⟨k, hk2, hk, e⟩ | ⟨k, hk, e⟩ | e | e | e | e | e | e | e <;> (obtain ⟨rfl, rfl⟩ := Prod.mk.inj e)
        · obtain rfl := nil_of rfl h1
          exact ⟨.sgl k, hk, rfl⟩
        · obtain ⟨v, r, rfl, h1, p1, h2⟩ := zip1 h1 h2
          obtain rfl := nil_of rfl h1
          obtain ⟨a, rfl, ha⟩ := part_reg p1
          exact ⟨.reg k a, ⟨hk, hk2, ha⟩, rfl⟩
        · obtain ⟨v, r, rfl, h1, p1, h2⟩ := zip1 h1 h2
          obtain ⟨v2, r, rfl, h1, p2, h2⟩ := zip1 h1 h2
          obtain ⟨v3, r, rfl, h1, p3, h2⟩ := zip1 h1 h2
          obtain rfl := nil_of rfl h1
          obtain ⟨d, rfl, hd⟩ := part_reg p1
          obtain ⟨a, rfl, ha⟩ := part_reg p2
          obtain ⟨b, rfl, hb⟩ := part_reg p3
          exact ⟨.sum k d a b, ⟨hk, hd, ha, hb⟩, rfl⟩
        · obtain ⟨v, r, rfl, h1, p1, h2⟩ := zip1 h1 h2
          obtain ⟨v2, r, rfl, h1, p2, h2⟩ := zip1 h1 h2
          obtain ⟨v3, r, rfl, h1, p3, h2⟩ := zip1 h1 h2
          obtain rfl := nil_of rfl h1
          obtain ⟨d, rfl, hd⟩ := part_reg p1
          obtain ⟨a, rfl, ha⟩ := part_reg p2
          obtain ⟨n, rfl, hn⟩ := part_k (-32, 31) (fun v => rfl) p3
          exact ⟨.plus d a n, ⟨hd, ha, hn⟩, rfl⟩
        · obtain ⟨v, r, rfl, h1, p1, h2⟩ := zip1 h1 h2
          obtain ⟨v2, r, rfl, h1, p2, h2⟩ := zip1 h1 h2
          obtain rfl := nil_of rfl h1
          obtain ⟨d, rfl, hd⟩ := part_reg p1
          obtain ⟨n, rfl, hn⟩ := part_k (0, 511) (fun v => rfl) p2
          exact ⟨.set d n, ⟨hd, hn⟩, rfl⟩
        · obtain ⟨v, r, rfl, h1, p1, h2⟩ := zip1 h1 h2
          obtain ⟨v2, r, rfl, h1, p2, h2⟩ := zip1 h1 h2
          obtain rfl := nil_of rfl h1
          obtain ⟨d, rfl, hd⟩ := part_reg p1
          obtain ⟨n, rfl, hn⟩ := part_k (0, 127) (fun v => rfl) p2
          exact ⟨.high d n, ⟨hd, hn⟩, rfl⟩
        · obtain ⟨v, r, rfl, h1, p1, h2⟩ := zip1 h1 h2
          obtain ⟨v2, r, rfl, h1, p2, h2⟩ := zip1 h1 h2
          obtain ⟨v3, r, rfl, h1, p3, h2⟩ := zip1 h1 h2
          obtain rfl := nil_of rfl h1
          obtain ⟨d, rfl, hd⟩ := part_reg p1
          obtain ⟨a, rfl, ha⟩ := part_reg p2
          obtain ⟨n, rfl, hn⟩ := part_k (0, 63) (fun v => rfl) p3
          exact ⟨.load d a n, ⟨hd, ha, hn⟩, rfl⟩
        · obtain ⟨v, r, rfl, h1, p1, h2⟩ := zip1 h1 h2
          obtain ⟨v2, r, rfl, h1, p2, h2⟩ := zip1 h1 h2
          obtain ⟨v3, r, rfl, h1, p3, h2⟩ := zip1 h1 h2
          obtain rfl := nil_of rfl h1
          obtain ⟨d, rfl, hd⟩ := part_reg p1
          obtain ⟨a, rfl, ha⟩ := part_reg p2
          obtain ⟨n, rfl, hn⟩ := part_k (0, 63) (fun v => rfl) p3
          exact ⟨.store d a n, ⟨hd, ha, hn⟩, rfl⟩
        · obtain ⟨v, r, rfl, h1, p1, h2⟩ := zip1 h1 h2
          obtain ⟨v2, r, rfl, h1, p2, h2⟩ := zip1 h1 h2
          obtain ⟨v3, r, rfl, h1, p3, h2⟩ := zip1 h1 h2
          obtain rfl := nil_of rfl h1
          obtain ⟨k, hk, rfl⟩ := isTm_iff p1
          obtain ⟨g, rfl, hg⟩ := part_k (0, 65535) (fun v => rfl) p2
          obtain ⟨b, rfl⟩ := isBl_iff p3
          exact ⟨.jump k g b, ⟨hk, hg⟩, rfl⟩
        · obtain ⟨v, r, rfl, h1, p1, h2⟩ := zip1 h1 h2
          obtain ⟨v2, r, rfl, h1, p2, h2⟩ := zip1 h1 h2
          obtain rfl := nil_of rfl h1
          obtain ⟨g, rfl, hg⟩ := part_k (0, 65535) (fun v => rfl) p1
          obtain ⟨b, rfl⟩ := isBl_iff p2
          exact ⟨.call g b, hg, rfl⟩
    | _ => cases h
end Bm
set_option maxHeartbeats 800000
namespace Bm
open PySem PySem.Spec PyProof.Rows L2
theorem sg_look : ∀ k, k < 7 → PT.lookup (nm SG k) = some (if k < 3 then ([] : List Str) else (["reg"] : List Str)) := by decide +kernel
theorem sm_look : ∀ k, k < 8 → PT.lookup (nm SM k) = some (["reg", "reg", "reg"] : List Str) := by decide +kernel
theorem tm_any : ∀ k, k < 7 → isTm (.str (nm TM k)) = true := by decide +kernel
theorem deedB_of {z : Str} {r : List V} {ks : List Str} (e : PT.lookup z = some ks) (hl : r.length = ks.length) (h : ((ks.zip r).all fun p => partB p.1 p.2) = true) : deedB (.str z :: r) = true := by
  show (match PT.lookup z with
    | some ks => decide (r.length = ks.length) && ((ks.zip r).all fun p => partB p.1 p.2)
    | none => false) = true
  rw [e]
  show (decide (r.length = ks.length) && ((ks.zip r).all fun p => partB p.1 p.2)) = true
  rw [decide_eq_true hl, Bool.true_and]
  exact h
theorem numB_of {i lo hi : Int} (h : lo ≤ i ∧ i ≤ hi) : numB (.int i) lo hi = true := by
  show (decide (lo ≤ i) && decide (i ≤ hi)) = true
  rw [decide_eq_true h.1, decide_eq_true h.2]
  rfl
theorem reg_of {i : Int} (h : r3 i) : partB "reg" (.int i) = true := numB_of h
theorem and_of {a b : Bool} (h1 : a = true) (h2 : b = true) : (a && b) = true := by rw [h1, h2]; rfl
theorem deed_vals {d : De} (h : d.ok) : deedB d.vals = true := by
  cases d with
  | sgl k =>
    have hk : k < 3 := h
    have e := sg_look k (Nat.lt_of_lt_of_le hk (by decide))
    rw [if_pos hk] at e
    exact deedB_of e rfl rfl
  | reg k a =>
    have e := sg_look k h.2.1
    rw [if_neg (by have := h.1; omega)] at e
    exact deedB_of e rfl (and_of (reg_of h.2.2) rfl)
  | sum k d a b => exact deedB_of (sm_look k h.1) rfl (and_of (reg_of h.2.1) (and_of (reg_of h.2.2.1) (and_of (reg_of h.2.2.2) rfl)))
  | plus d a n => exact deedB_of (pt_at _ (show (("plus", ["reg", "reg", "signed six"]) : Str × List Str) ∈ PT by decide +kernel)) rfl (and_of (reg_of h.1) (and_of (reg_of h.2.1) (and_of (numB_of h.2.2) rfl)))
  | set d n => exact deedB_of (pt_at _ (show (("set", ["reg", "nine"]) : Str × List Str) ∈ PT by decide +kernel)) rfl (and_of (reg_of h.1) (and_of (numB_of h.2) rfl))
  | high d n => exact deedB_of (pt_at _ (show (("high", ["reg", "seven"]) : Str × List Str) ∈ PT by decide +kernel)) rfl (and_of (reg_of h.1) (and_of (numB_of h.2) rfl))
  | load d a n => exact deedB_of (pt_at _ (show (("load", ["reg", "reg", "six"]) : Str × List Str) ∈ PT by decide +kernel)) rfl (and_of (reg_of h.1) (and_of (reg_of h.2.1) (and_of (numB_of h.2.2) rfl)))
  | store d a n => exact deedB_of (pt_at _ (show (("store", ["reg", "reg", "six"]) : Str × List Str) ∈ PT by decide +kernel)) rfl (and_of (reg_of h.1) (and_of (reg_of h.2.1) (and_of (numB_of h.2.2) rfl)))
  | jump k g f => exact deedB_of (pt_at _ (show (("jump", ["when", "goal", "far"]) : Str × List Str) ∈ PT by decide +kernel)) rfl (and_of (tm_any k h.1) (and_of (numB_of h.2) rfl))
  | call g f => exact deedB_of (pt_at _ (show (("call", ["goal", "far"]) : Str × List Str) ∈ PT by decide +kernel)) rfl (and_of (numB_of h) rfl)
theorem mem_look : ∀ {l : List (Str × List Str)} {z : Str} {ks : List Str}, l.lookup z = some ks → (z, ks) ∈ l := by
  intro l
  induction l with
  | nil => intro z ks h; cases h
  | cons p l ih =>
    obtain ⟨a, b⟩ := p
    intro z ks h
    rw [List.lookup_cons] at h
    by_cases c : z == a
    · rw [c] at h
      have e1 := eq_of_beq c
      have e2 : b = ks := Option.some.inj h
      rw [e1, ← e2]
      exact List.mem_cons_self ..
    · have c2 : (z == a) = false := by simpa using c
      rw [c2] at h
      exact List.mem_cons_of_mem _ (ih h)
theorem deed_name {z : Str} {r : List V} (h : deedB (.str z :: r) = true) : ∃ ks, (z, ks) ∈ PT := by
  have h : (match PT.lookup z with
    | some ks => decide (r.length = ks.length) && ((ks.zip r).all fun p => partB p.1 p.2)
    | none => false) = true := h
  cases e : PT.lookup z with
  | none => rw [e] at h; cases h
  | some ks => exact ⟨ks, mem_look e⟩
theorem vals_ok {K : PySem.W.Frag} {H : Hp} (d : De) : ∀ x ∈ d.vals, OkV K H x := by
  intro x hx
  cases d <;> (simp only [De.vals, List.mem_cons, List.not_mem_nil, or_false] at hx) <;> (first | (rcases hx with rfl | rfl | rfl | rfl) | (rcases hx with rfl | rfl | rfl) | (rcases hx with rfl | rfl) | (rcases hx with rfl)) <;> first | exact .str _ | exact .int _ | exact .bl _
/-! classes of errors -/
structure Ex1 (K : PySem.W.Frag) (mg : Str → Option Value) (x : Str) : Prop where
  g : mg x = some (.ref (He.ga K x))
  c : PySem.W.excIn K (He.ga K x) He.veBase "ValueError.__new__" = true
  e : PySem.W.keepIn K (.ref (He.ga K x)) = true
  b : PySem.W.subIn K (.ref (He.ga K x)) (.type "BaseException") = some true
  t : PySem.W.typeIn K (.ref (He.ga K x)) = some (.type "type")
section
variable {P : Program} {w : World} {K : PySem.W.Frag} {mg : Str → Option Value} {base : Heap} {f : Addr} {fd : FuncData} {dvs : List V} {odd : List Str}
/-! packed -/
abbrev KnD (P : Program) (w : World) (K : PySem.W.Frag) (mg : Str → Option Value) (base : Heap) (odd : List Str) : Prop := Kn P w K mg base CX0 3 "is_deed" ["thing"] [] (spDeed K odd)
abbrev KnW (P : Program) (w : World) (K : PySem.W.Frag) (mg : Str → Option Value) (base : Heap) : Prop := Kn P w K mg base CX0 3 "words_of" ["deed", "place"] [] (spWordsOf K)
def spPacked (K : PySem.W.Frag) (odd : List Str) : Sp := fun vs H Q E => ∃ (a : Addr) (xs : List V) (p : Int), vs = [.ref a, .int p] ∧ SqT K H a xs ∧ (∀ x ∈ xs, OkV K H x) ∧ (∀ z r, xs = .str z :: r → (∃ ks, (z, ks) ∈ PT) ∨ z ∈ odd) ∧
  ((deedB xs = false ∧ ∀ H', Same H H' → E (.ref (He.ga K "BadDeed")) none H') ∨
  ∃ d : De, d.ok ∧ xs = d.vals ∧ (¬ (0 ≤ p ∧ p ≤ 199) → ∀ H', Same H H' → E (.ref (He.ga K "BadCount")) none H') ∧
    (0 ≤ p ∧ p ≤ 199 → ¬ d.reached p → ∀ H', Same H H' → E (.ref (He.ga K "BadReach")) none H') ∧
    (0 ≤ p ∧ p ≤ 199 → d.reached p → ∀ q H', Same H H' → H' q = some (.tup (vInts (d.words p))) → Q (.ref q) H'))
abbrev N_packed : List Str := ["deed", "place", "words"]
theorem sc_packed : FnScope ["deed", "place", "words"] ["deed", "place"] (defScope s_packed) := ⟨rfl, rfl, rfl, by decide +kernel, rfl, by decide +kernel, by decide +kernel⟩
theorem ok_packed (F : FnP K "packed" s_packed dvs f fd) (k_is_deed : KnD P w K mg base odd) (k_is_number : KnN P w K mg base) (k_words_of : KnW P w K mg base) (X1 : Ex1 K mg "BadDeed") (X2 : Ex1 K mg "BadCount") (X3 : Ex1 K mg "BadReach")
    (gm : ∃ t, mg "IMAGE_MOST" = some (.int 200 t)) : FnOk P w K mg base (L2.CX P w) 4 f fd ["deed", "place"] (spPacked K odd) := by
  refine F.ok sc_packed (fun vs H Q E h => ?_) (fun cdv A outer s H vs Q E hr h => ?_)
  · obtain ⟨a, xs, p, rfl, _⟩ := h
    rfl
  · obtain ⟨a, xs, p, rfl, hS, hok, hn, hq⟩ := h
    obtain ⟨g_BadDeed, x_BadDeed, e_BadDeed, b_BadDeed, t_BadDeed⟩ := X1
    obtain ⟨g_BadCount, x_BadCount, e_BadCount, b_BadCount, t_BadCount⟩ := X2
    obtain ⟨g_BadReach, x_BadReach, e_BadReach, b_BadReach, t_BadReach⟩ := X3
    obtain ⟨tk, g_IMAGE_MOST⟩ := gm
    let v_IMAGE_MOST : Int := 200
    refine ⟨_, (pss_cons (ps_if (pt_not (pt_val (pk k_is_deed hr (by decide) rfl pass0 (pa_cons (pv 0) pa_nil)))) (pss_one (ps_raise rfl (takes_of rfl rfl rfl rfl) (pmk_own PySem.F.excBase_ValueError x_BadDeed g_BadDeed e_BadDeed (raises_own b_BadDeed t_BadDeed) rfl))) pss_nil)
      (pss_cons (ps_if (pt_not (pt_val (pk k_is_number hr (by decide) rfl pass0 (pa_cons (pv 1) (pa_cons pe_int (pa_cons (pe_op op_sub (pe_glob (v := .int v_IMAGE_MOST) rfl g_IMAGE_MOST ⟨_, rfl⟩) pe_int) pa_nil)))))) (pss_one (ps_raise rfl (takes_of rfl rfl rfl rfl) (pmk_own PySem.F.excBase_ValueError x_BadCount g_BadCount e_BadCount (raises_own b_BadCount t_BadCount) rfl))) pss_nil)
      (pss_cons (ps_set (i := 2) sc_packed.nd rfl (Or.inl rfl) (pk k_words_of hr (by decide) rfl pass0 (pa_cons (pv 0) (pa_cons (pv 1) pa_nil))))
      (pss_cons (ps_if (pt_cmpR op_isN (pv 2) pe_non (nomark _)) (pss_one (ps_raise rfl (takes_of rfl rfl rfl rfl) (pmk_own PySem.F.excBase_ValueError x_BadReach g_BadReach e_BadReach (raises_own b_BadReach t_BadReach) rfl))) pss_nil)
      (pss_one (ps_ret (pv 2))))))), ?_⟩
    refine ⟨_, rfl, a, xs, rfl, hS, hok, hn, fun H1 s1 => ⟨_, rfl, ?_⟩⟩
    rcases hq with ⟨hb, q1⟩ | ⟨d, hd, rfl, q2, q3, q4⟩
    · rw [hb]
      exact iteT (q1 H1 s1)
    · rw [deed_vals hd]
      refine iteF ⟨_, rfl, _, _, rfl, rfl, _, 0, 199, rfl, .int p, _, rfl, ?_⟩
      by_cases hp : 0 ≤ p ∧ p ≤ 199
      · rw [numB_of hp]
        refine iteF ⟨_, rfl, _, rfl, a, d, p, rfl, Same.tup s1 hS, hd, fun hreach q H2 s2 h2 => ?_, fun hreach => ?_⟩
        · exact ⟨_, rfl, rfl, _, rfl, iteF ⟨_, rfl, q4 hp hreach q H2 (Same.trans s1 s2) h2⟩⟩
        · exact ⟨_, rfl, rfl, _, rfl, iteT (q3 hp hreach H1 s1)⟩
      · have e : numB (.int p) 0 199 = false := by
          cases c : numB (.int p) 0 199 with
          | false => rfl
          | true =>
            obtain ⟨i, e1, e2⟩ := numB_iff c
            rw [← V.int.inj e1] at e2
            exact absurd e2 hp
        rw [e]
        exact iteT (q2 hp H1 s1)
end
end Bm
set_option maxHeartbeats 800000
namespace Bm
open PySem PySem.Spec PyProof.Rows L2
/-! the law's state: the script, how many cells are begun, a mixed number, what is left of a cell -/
structure Sk where
  st : Addr
  sc : Addr
  ns : List Int
def St (K : PySem.W.Frag) (H : Hp) (S : Sk) : Prop := S.ns.length ≤ 63 ∧ SqL K H S.sc (S.ns.map V.int) ∧ ∃ a m c : Int, H S.st = some (.lst [.ref S.sc, .int a, .int m, .int c]) ∧ 0 ≤ a ∧ (0 ≤ m ∧ m < 2147483647) ∧ 0 ≤ c
/-- all but the state stays, the state is one -/
structure Kp (K : PySem.W.Frag) (S : Sk) (H H' : Hp) : Prop where
  but : ∀ b o, b ≠ S.st → H b = some o → H' b = some o
  old : St K H S
  st : St K H' S
theorem St.lst {K : PySem.W.Frag} {H : Hp} {S : Sk} (h : St K H S) : ∃ l, H S.st = some (.lst l) := let ⟨_, _, _, _, _, h1, _⟩ := h; ⟨_, h1⟩
theorem St.same {K : PySem.W.Frag} {H H' : Hp} {S : Sk} (h : St K H S) (e : Same H H') : St K H' S := by
  obtain ⟨h0, h1, a, m, c, h2, h3⟩ := h
  exact ⟨h0, e.seq h1, a, m, c, e _ _ h2, h3⟩
theorem Kp.of {K : PySem.W.Frag} {H H' : Hp} {S : Sk} (h : St K H S) (e : Same H H') : Kp K S H H' := ⟨fun b o _ q => e b o q, h, h.same e⟩
theorem Kp.refl {K : PySem.W.Frag} {H : Hp} {S : Sk} (h : St K H S) : Kp K S H H := Kp.of h (Same.refl H)
theorem Kp.trans {K : PySem.W.Frag} {H H1 H2 : Hp} {S : Sk} (a : Kp K S H H1) (b : Kp K S H1 H2) : Kp K S H H2 := ⟨fun c o n q => b.but c o n (a.but c o n q), a.old, b.st⟩
theorem Kp.same {K : PySem.W.Frag} {H H1 H2 : Hp} {S : Sk} (a : Kp K S H H1) (e : Same H1 H2) : Kp K S H H2 := a.trans (Kp.of a.st e)
theorem Kp.tup {K : PySem.W.Frag} {H H' : Hp} {S : Sk} {p : Addr} {xs : List V} (k : Kp K S H H') (h : SqT K H p xs) : SqT K H' p xs := by
  obtain ⟨l, hl⟩ := k.old.lst
  rcases h with (h | ⟨o, h⟩) | h
  · exact .inl (.inl (k.but _ _ (fun z => by rw [z, hl] at h; cases h) h))
  · exact .inl (.inr ⟨o, k.but _ _ (fun z => by rw [z, hl] at h; cases h) h⟩)
  · exact .inr h
theorem Kp.lst {K : PySem.W.Frag} {H H' : Hp} {S : Sk} {p : Addr} {xs : List V} (k : Kp K S H H') (n : p ≠ S.st) (h : SqL K H p xs) : SqL K H' p xs := by
  rcases h with (h | ⟨o, h⟩) | h
  · exact .inl (.inl (k.but _ _ n h))
  · exact .inl (.inr ⟨o, k.but _ _ n h⟩)
  · exact .inr h
theorem Kp.free {K : PySem.W.Frag} {H H' : Hp} {S : Sk} {p : Addr} (k : Kp K S H H') (h : H' p = none) : H p = none := by
  cases q : H p with
  | none => rfl
  | some o =>
    by_cases e : p = S.st
    · obtain ⟨l, hl⟩ := k.st.lst
      rw [e, hl] at h
      cases h
    · rw [k.but p o e q] at h
      cases h
theorem Kp.add {K : PySem.W.Frag} {H H' : Hp} {S : Sk} {p : Addr} {o : HO} (k : Kp K S H H') (h : H' p = none) : Kp K S H (upd H' p o) := k.same (Same.add h)
theorem St.upd {K : PySem.W.Frag} {H : Hp} {S : Sk} {p : Addr} {o : HO} (h : St K H S) (n : p ≠ S.st) (np : ∀ u, H S.sc = some u → S.sc ≠ p) : St K (upd H p o) S := by
  obtain ⟨h0, h1, a, m, c, h2, h3⟩ := h
  refine ⟨h0, ?_, a, m, c, by rw [upd_ne (Ne.symm n)]; exact h2, h3⟩
  rcases h1 with (h | ⟨u, h⟩) | h
  · exact .inl (.inl (by rw [upd_ne (np _ h)]; exact h))
  · exact .inl (.inr ⟨u, by rw [upd_ne (np _ h)]; exact h⟩)
  · exact .inr h
/-- a thing that H does not know may change -/
theorem Kp.mut {K : PySem.W.Frag} {H H' : Hp} {S : Sk} {p : Addr} {o : HO} (k : Kp K S H H') (h : H p = none) : Kp K S H (upd H' p o) := by
  obtain ⟨l, hl⟩ := k.old.lst
  have n : p ≠ S.st := fun z => by
    rw [z, hl] at h
    cases h
  refine ⟨fun b u nb q => by rw [upd_ne (ne_of_none q h)]; exact k.but b u nb q, k.old, ?_⟩
  obtain ⟨h0, h1, h2⟩ := k.old
  obtain ⟨g0, g1, a, m, c, g2, g3⟩ := k.st
  refine ⟨g0, ?_, a, m, c, by rw [upd_ne (Ne.symm n)]; exact g2, g3⟩
  have h1' : SqL K (L2.upd H' p o) S.sc (S.ns.map V.int) := by
    rcases h1 with (h5 | ⟨u, h5⟩) | h5
    · have np : S.sc ≠ p := ne_of_none h5 h
      have ns : S.sc ≠ S.st := fun z => by
        obtain ⟨_, _, a, m, c, g, _⟩ := k.old
        rw [z, g] at h5
        have e := Option.some.inj h5
        cases e2 : S.ns with
        | nil => rw [e2] at e; cases e
        | cons x r => rw [e2] at e; cases e
      exact .inl (.inl (by rw [upd_ne np]; exact k.but _ _ ns h5))
    · have np : S.sc ≠ p := ne_of_none h5 h
      have ns : S.sc ≠ S.st := fun z => by
        rw [z, hl] at h5
        cases h5
      exact .inl (.inr ⟨u, by rw [upd_ne np]; exact k.but _ _ ns h5⟩)
    · exact .inr h5
  exact h1'
theorem Kp.put {K : PySem.W.Frag} {H : Hp} {S : Sk} {a m c : Int} (h : St K H S) (ha : 0 ≤ a) (hm : 0 ≤ m ∧ m < 2147483647) (hc : 0 ≤ c) : Kp K S H (upd H S.st (.lst [.ref S.sc, .int a, .int m, .int c])) := by
  obtain ⟨h0, h1, a0, m0, c0, h2, h3⟩ := id h
  refine ⟨fun b o n q => by rw [upd_ne n]; exact q, h, h0, ?_, a, m, c, upd_same, ha, hm, hc⟩
  rcases h1 with (h5 | ⟨u, h5⟩) | h5
  · have ns : S.sc ≠ S.st := fun z => by
      rw [z, h2] at h5
      have e := Option.some.inj h5
      cases e2 : S.ns with
      | nil => rw [e2] at e; cases e
      | cons x r => rw [e2] at e; cases e
    exact .inl (.inl (by rw [upd_ne ns]; exact h5))
  · have ns : S.sc ≠ S.st := fun z => by
      rw [z, h2] at h5
      cases h5
    exact .inl (.inr ⟨u, by rw [upd_ne ns]; exact h5⟩)
  · exact .inr h5
section
variable {P : Program} {w : World} {K : PySem.W.Frag} {mg : Str → Option Value} {base : Heap} {f : Addr} {fd : FuncData} {dvs : List V}
/-! _law_start -/
def spStart (K : PySem.W.Frag) : Sp := fun vs H Q _ => ∃ (a : Addr) (ns : List Int), vs = [.ref a] ∧ SqL K H a (ns.map V.int) ∧ ns.length ≤ 63 ∧ ∀ p H', H p = none → Same H H' → St K H' ⟨p, a, ns⟩ → Q (.ref p) H'
abbrev N__law_start : List Str := ["_law_script", "_law_mixed", "_law_cell"]
theorem sc__law_start : FnScope ["_law_script", "_law_mixed", "_law_cell"] ["_law_script"] (defScope s__law_start) := ⟨rfl, rfl, rfl, by decide +kernel, rfl, by decide +kernel, by decide +kernel⟩
theorem ok_start (F : FunD K "_law_start" "_law_start" (defArgs s__law_start) (defBody s__law_start) (defScope s__law_start) dvs [] f fd) : FnOk P w K mg base CX0 1 f fd ["_law_script"] (spStart K) := by
  refine F.ok sc__law_start (fun vs H Q E h => ?_) (fun cdv A outer s H vs Q E hr h => ?_)
  · obtain ⟨a, ns, rfl, _⟩ := h
    rfl
  · obtain ⟨a, ns, rfl, hS, h63, q⟩ := h
    refine ⟨_, PSs.nox (pss_cons (ps_set (i := 1) sc__law_start.nd rfl (Or.inl rfl) pe_int)
      (pss_cons (ps_for PassesOwn.never rfl (pi_list (pv 0)) (pg_name (i := 2) sc__law_start.nd rfl (Or.inl rfl))
      (pss_one (ps_set (i := 1) sc__law_start.nd rfl (Or.inl rfl) (pe_op op_modN (pe_op op_add (pe_op op_add (pe_op op_mul (pv 1) pe_int) (pv 2)) pe_int) pe_int))))
      (pss_one (ps_ret (pe_lst (pa_cons (pv 0) (pa_cons pe_int (pa_cons (pv 1) (pa_cons pe_int pa_nil))))))))), ?_⟩
    refine ⟨_, rfl, a, rfl, ⟨_, hS⟩, for_list (K := K) (a := a) (xs := ns.map V.int) (fun i σ H2 => ∃ (m : Int) (v : Option V), σ = [some (.ref a), some (.int m), v] ∧ H2 = H ∧ 0 ≤ m ∧ m < 2147483647)
      ⟨1, none, rfl, rfl, by decide, by decide⟩ (fun i σ H2 _ ⟨_, _, _, e, _⟩ => by rw [e]; exact hS) ?_ ?_⟩
    · rintro i x σ H2 hi ⟨m, v, rfl, rfl, h0, h1⟩
      rw [List.getElem?_map] at hi
      cases e : ns[i]? with
      | none => rw [e] at hi; cases hi
      | some z =>
        rw [e] at hi
        have ez : x = V.int z := (Option.some.inj hi).symm
        subst ez
        refine ⟨_, rfl, _, _, rfl, rfl, .inl ⟨by omega, by omega⟩, _, rfl, _, _, rfl, rfl, _, _, rfl, rfl, _, _, rfl, rfl, (show (2147483647 : Int) ≠ 0 by decide), ?_⟩
        refine ⟨_, _, rfl, rfl, ?_⟩
        rw [Int.fmod_eq_emod_of_nonneg _ (by decide)]
        omega
    · rintro σ H2 ⟨m, v, rfl, rfl, h0, h1⟩
      exact ⟨_, rfl, _, rfl, line5 (by simp), laid fun p H1 hp s1 h2 => q p H1 hp s1 ⟨h63, s1.seq hS, 0, m, 0, h2, by decide, ⟨h0, h1⟩, by decide⟩⟩
/-! _law_drawn -/
def spDrawn (K : PySem.W.Frag) : Sp := fun vs H Q _ => ∃ (S : Sk) (many : Int), vs = [.ref S.st, .int many] ∧ St K H S ∧ 0 < many ∧ many < 1073741824 ∧ ∀ r H', 0 ≤ r → r < many → Kp K S H H' → Q (.int r) H'
abbrev N__law_drawn : List Str := ["_law_state", "_law_many", "_law_found", "_law_cell"]
theorem sc__law_drawn : FnScope ["_law_state", "_law_many", "_law_found", "_law_cell"] ["_law_state", "_law_many"] (defScope s__law_drawn) := ⟨rfl, rfl, rfl, by decide +kernel, rfl, by decide +kernel, by decide +kernel⟩
theorem ok_drawn (F : FunD K "_law_drawn" "_law_drawn" (defArgs s__law_drawn) (defBody s__law_drawn) (defScope s__law_drawn) dvs [] f fd) (g_len : mg "len" = none) : FnOk P w K mg base CX0 1 f fd ["_law_state", "_law_many"] (spDrawn K) := by
  refine F.ok sc__law_drawn (fun vs H Q E h => ?_) (fun cdv A outer s H vs Q E hr h => ?_)
  · obtain ⟨S, many, rfl, _⟩ := h
    rfl
  · obtain ⟨S, many, rfl, hst, hm0, hm1, q⟩ := h
    obtain ⟨h3, h2, a, m, c, h1, ha, hm, hc⟩ := id hst
    refine ⟨_, PSs.nox (pss_cons (ps_if (pt_cmpR op_gt (pe_ix ix_list (pv 0) pe_int (fun _ _ => rfl)) pe_int (nomark _)) (pss_cons (ps_set (i := 2) sc__law_drawn.nd rfl (Or.inl rfl) (pe_op op_modN (pe_ix ix_list (pv 0) pe_int (fun _ _ => rfl)) (pv 1)))
      (pss_cons (ps_asg (pe_op op_fdivN (pe_ix ix_list (pv 0) pe_int (fun _ _ => rfl)) (pv 1)) (pg_sub (pv 0) pe_int set_list))
      (pss_one (ps_ret (pv 2))))) pss_nil)
      (pss_cons (ps_asg (pe_op op_add (pe_ix ix_list (pv 0) pe_int (fun _ _ => rfl)) pe_int) (pg_sub (pv 0) pe_int set_list))
      (pss_cons (ps_if (pt_cmpR op_le (pe_ix ix_list (pv 0) pe_int (fun _ _ => rfl)) (pe_callB call_len rfl g_len boot_len (pa_cons (pe_ix ix_list (pv 0) pe_int (fun _ _ => rfl)) pa_nil)) (nomark _)) (pss_cons (ps_set (i := 3) sc__law_drawn.nd rfl (Or.inl rfl) (pe_ix ix_list (pe_ix ix_list (pv 0) pe_int (fun _ _ => rfl)) (pe_op op_sub (pe_ix ix_list (pv 0) pe_int (fun _ _ => rfl)) pe_int) (fun _ _ => rfl)))
      (pss_cons (ps_asg (pe_ifExp (pt_cmpR op_ge (pv 3) (pe_op op_pow pe_int pe_int) (nomark _)) (pe_op op_fdivN (pv 3) (pv 1)) pe_int) (pg_sub (pv 0) pe_int set_list))
      (pss_one (ps_ret (pe_op op_modN (pv 3) (pv 1)))))) pss_nil)
      (pss_cons (ps_asg (pe_op op_modN (pe_op op_add (pe_op op_mul (pe_ix ix_list (pv 0) pe_int (fun _ _ => rfl)) pe_int) pe_int) pe_int) (pg_sub (pv 0) pe_int set_list))
      (pss_one (ps_ret (pe_op op_modN (pe_op op_fdivN (pe_ix ix_list (pv 0) pe_int (fun _ _ => rfl)) pe_int) (pv 1)))))))), ?_⟩
    have fm : ∀ x : Int, 0 ≤ x.fmod many ∧ x.fmod many < many := fun x => by
      rw [Int.fmod_eq_emod_of_nonneg _ (by omega)]
      exact ⟨Int.emod_nonneg _ (by omega), Int.emod_lt_of_pos _ hm0⟩
    have at_ : ∀ (y : Addr) (x0 x1 x2 x3 : V), atI [x0, x1, x2, x3] 3 = some x3 ∧ atI [x0, x1, x2, x3] 2 = some x2 ∧ atI [x0, x1, x2, x3] 1 = some x1 ∧ atI [x0, x1, x2, x3] 0 = some x0 := fun y x0 x1 x2 x3 => ⟨atI_nat (j := 3) rfl, atI_nat (j := 2) rfl, atI_nat (j := 1) rfl, atI_nat (j := 0) rfl⟩
    refine ⟨_, rfl, _, _, _, _, rfl, rfl, SqL.of h1, (at_ 0 _ _ _ _).1, _, _, rfl, rfl, _, rfl, ?_⟩
    by_cases hc0 : 0 < c
    · rw [decide_eq_true hc0]
      refine iteT ?_
      refine ⟨_, rfl, _, _, _, _, rfl, rfl, SqL.of h1, (at_ 0 _ _ _ _).1, _, rfl, _, _, rfl, rfl, by omega, ?_⟩
      refine ⟨_, rfl, _, _, _, _, rfl, rfl, SqL.of h1, (at_ 0 _ _ _ _).1, _, rfl, _, _, rfl, rfl, ⟨by omega, by omega⟩, _, rfl, _, _, _, 3, rfl, rfl, h1, rfl, ?_⟩
      refine ⟨_, rfl, q _ _ (fm c).1 (fm c).2 (Kp.put hst ha hm ?_)⟩
      show 0 ≤ c.fdiv many
      rw [Int.fdiv_eq_ediv_of_nonneg _ (by omega)]
      exact Int.ediv_nonneg hc (by omega)
    · rw [decide_eq_false hc0]
      refine iteF ?_
      refine ⟨_, rfl, _, _, _, _, rfl, rfl, SqL.of h1, (at_ 0 _ _ _ _).2.2.1, _, _, rfl, rfl, _, rfl, _, _, _, 1, rfl, rfl, h1, rfl, ?_⟩
      have k1 : Kp K S H (upd H S.st (.lst [.ref S.sc, .int (a + 1), .int m, .int c])) := Kp.put hst (by omega) hm hc
      have e1 : (upd H S.st (.lst [.ref S.sc, .int (a + 1), .int m, .int c])) S.st = some (.lst [.ref S.sc, .int (a + 1), .int m, .int c]) := upd_same
      show tSeq _ _ _ _ (upd H S.st (.lst [.ref S.sc, .int (a + 1), .int m, .int c]))
      generalize upd H S.st (.lst [.ref S.sc, .int (a + 1), .int m, .int c]) = H1 at k1 e1 ⊢
      refine ⟨_, rfl, _, _, _, _, rfl, rfl, SqL.of e1, (at_ 0 _ _ _ _).2.2.1, _, rfl, _, _, _, _, rfl, rfl, SqL.of e1, (at_ 0 _ _ _ _).2.2.2, _, _, rfl, .inl ⟨_, k1.st.2.1, rfl⟩, _, _, rfl, rfl, _, rfl, ?_⟩
      by_cases hl : a + 1 ≤ ((S.ns.map V.int).length : Int)
      · rw [decide_eq_true hl]
        refine iteT ?_
        rw [List.length_map] at hl
        have hat : atI (S.ns.map V.int) (a + 1 - 1) = some (.int (S.ns.getD a.toNat 0)) := by
          have e : a + 1 - 1 = ((a.toNat : Nat) : Int) := by omega
          rw [e]
          refine atI_nat ?_
          rw [List.getElem?_map, List.getD_eq_getElem?_getD]
          have : a.toNat < S.ns.length := by omega
          rw [List.getElem?_eq_getElem this]
          rfl
        generalize S.ns.getD a.toNat 0 = x at hat
        refine ⟨_, rfl, _, _, _, _, rfl, rfl, SqL.of e1, (at_ 0 _ _ _ _).2.2.2, _, rfl, _, _, _, _, rfl, rfl, SqL.of e1, (at_ 0 _ _ _ _).2.2.1, _, _, rfl, rfl, _, _, _, _, rfl, rfl, k1.st.2.1, hat, ?_⟩
        refine ⟨_, rfl, _, _, rfl, rfl, ⟨by decide, by decide, by decide⟩, _, _, rfl, rfl, _, rfl, ?_⟩
        have fin : ∀ z : Int, 0 ≤ z → Kp K S H (upd H1 S.st (.lst [.ref S.sc, .int (a + 1), .int m, .int z])) := fun z hz => k1.trans (Kp.put k1.st (by omega) hm hz)
        by_cases hx : (10 : Int) ^ (18 : Int).toNat ≤ x
        · rw [decide_eq_true hx]
          refine iteT ?_
          refine ⟨_, rfl, _, rfl, _, _, rfl, rfl, ⟨by omega, by omega⟩, _, rfl, _, _, _, 3, rfl, rfl, e1, rfl, ?_⟩
          refine ⟨_, rfl, _, rfl, _, _, rfl, rfl, by omega, q _ _ (fm x).1 (fm x).2 (fin _ ?_)⟩
          show 0 ≤ x.fdiv many
          rw [Int.fdiv_eq_ediv_of_nonneg _ (by omega)]
          exact Int.ediv_nonneg (Int.le_trans (by decide) hx) (by omega)
        · rw [decide_eq_false hx]
          refine iteF ?_
          refine ⟨_, rfl, _, _, _, 3, rfl, rfl, e1, rfl, ?_⟩
          exact ⟨_, rfl, _, rfl, _, _, rfl, rfl, by omega, q _ _ (fm x).1 (fm x).2 (fin _ (by decide))⟩
      · rw [decide_eq_false hl]
        refine iteF ?_
        refine ⟨_, rfl, _, _, _, _, rfl, rfl, SqL.of e1, (at_ 0 _ _ _ _).2.1, _, _, rfl, rfl, .inl ⟨by omega, by omega⟩, _, _, rfl, rfl, _, _, rfl, rfl, (show (2147483647 : Int) ≠ 0 by decide), _, rfl, _, _, _, 2, rfl, rfl, e1, rfl, ?_⟩
        refine ⟨_, rfl, _, _, _, _, rfl, rfl, SqL.of upd_same, (at_ 0 _ _ _ _).2.1, _, _, rfl, rfl, ⟨by decide, by decide⟩, _, rfl, _, _, rfl, rfl, by omega, ?_⟩
        refine q _ _ (fm _).1 (fm _).2 (k1.trans (Kp.put k1.st (by omega) ?_ hc))
        show 0 ≤ (m * 48271 + 11).fmod 2147483647 ∧ (m * 48271 + 11).fmod 2147483647 < 2147483647
        rw [Int.fmod_eq_emod_of_nonneg _ (by decide)]
        omega
end
end Bm
set_option maxHeartbeats 800000
namespace Bm
open PySem PySem.Spec PyProof.Rows L2
section
variable {P : Program} {w : World} {K : PySem.W.Frag} {mg : Str → Option Value} {base : Heap} {f : Addr} {fd : FuncData} {dvs : List V}
/-! lists of names -/
def spNames (l : List Str) : Sp := fun vs H Q _ => vs = [] ∧ ∀ q H', H q = none → Same H H' → H' q = some (.lst (l.map V.str)) → Q (.ref q) H'
abbrev N__law_plain : List Str := []
theorem sc__law_plain : FnScope [] [] (defScope s__law_plain) := ⟨rfl, rfl, rfl, by decide +kernel, rfl, by decide +kernel, by decide +kernel⟩
abbrev N__law_pairs : List Str := []
theorem sc__law_pairs : FnScope [] [] (defScope s__law_pairs) := ⟨rfl, rfl, rfl, by decide +kernel, rfl, by decide +kernel, by decide +kernel⟩
abbrev N__law_times : List Str := []
theorem sc__law_times : FnScope [] [] (defScope s__law_times) := ⟨rfl, rfl, rfl, by decide +kernel, rfl, by decide +kernel, by decide +kernel⟩
theorem ok_plain (F : FunD K "_law_plain" "_law_plain" (defArgs s__law_plain) (defBody s__law_plain) (defScope s__law_plain) dvs [] f fd) : FnOk P w K mg base CX0 1 f fd [] (spNames SG) := by
  refine F.ok sc__law_plain (fun vs H Q E h => by rw [h.1]; rfl) (fun cdv A outer s H vs Q E hr h => ?_)
  obtain ⟨rfl, q⟩ := h
  refine ⟨_, PSs.nox (pss_one (ps_ret (pe_lst (pa_cons pe_str (pa_cons pe_str (pa_cons pe_str (pa_cons pe_str (pa_cons pe_str (pa_cons pe_str (pa_cons pe_str pa_nil)))))))))), ?_⟩
  exact ⟨line5 (by simp), laid fun q' H1 hq s1 h1 => q q' H1 hq s1 h1⟩
theorem ok_pairs (F : FunD K "_law_pairs" "_law_pairs" (defArgs s__law_pairs) (defBody s__law_pairs) (defScope s__law_pairs) dvs [] f fd) : FnOk P w K mg base CX0 1 f fd [] (spNames SM) := by
  refine F.ok sc__law_pairs (fun vs H Q E h => by rw [h.1]; rfl) (fun cdv A outer s H vs Q E hr h => ?_)
  obtain ⟨rfl, q⟩ := h
  refine ⟨_, PSs.nox (pss_one (ps_ret (pe_lst (pa_cons pe_str (pa_cons pe_str (pa_cons pe_str (pa_cons pe_str (pa_cons pe_str (pa_cons pe_str (pa_cons pe_str (pa_cons pe_str pa_nil))))))))))), ?_⟩
  exact ⟨line5 (by simp), laid fun q' H1 hq s1 h1 => q q' H1 hq s1 h1⟩
theorem ok_times (F : FunD K "_law_times" "_law_times" (defArgs s__law_times) (defBody s__law_times) (defScope s__law_times) dvs [] f fd) : FnOk P w K mg base CX0 1 f fd [] (spNames TM) := by
  refine F.ok sc__law_times (fun vs H Q E h => by rw [h.1]; rfl) (fun cdv A outer s H vs Q E hr h => ?_)
  obtain ⟨rfl, q⟩ := h
  refine ⟨_, PSs.nox (pss_one (ps_ret (pe_lst (pa_cons pe_str (pa_cons pe_str (pa_cons pe_str (pa_cons pe_str (pa_cons pe_str (pa_cons pe_str (pa_cons pe_str pa_nil)))))))))), ?_⟩
  exact ⟨line5 (by simp), laid fun q' H1 hq s1 h1 => q q' H1 hq s1 h1⟩
abbrev KnDr (P : Program) (w : World) (K : PySem.W.Frag) (mg : Str → Option Value) (base : Heap) : Prop := Kn P w K mg base CX0 1 "_law_drawn" ["_law_state", "_law_many"] [] (spDrawn K)
/-! _law_number -/
def spNumber (K : PySem.W.Frag) : Sp := fun vs H Q _ => ∃ (S : Sk) (lo hi : Int), vs = [.ref S.st, .int lo, .int hi] ∧ St K H S ∧ lo ≤ hi ∧ hi - lo + 1 < 1073741824 ∧ ∀ r H', lo ≤ r → r ≤ hi → Kp K S H H' → Q (.int r) H'
abbrev N__law_number : List Str := ["_law_state", "_law_low", "_law_high", "_law_many", "_law_way"]
theorem sc__law_number : FnScope ["_law_state", "_law_low", "_law_high", "_law_many", "_law_way"] ["_law_state", "_law_low", "_law_high"] (defScope s__law_number) := ⟨rfl, rfl, rfl, by decide +kernel, rfl, by decide +kernel, by decide +kernel⟩
theorem two_ {x y : V} {i : Int} (h0 : 0 ≤ i) (h1 : i < 2) : atI [x, y] i = some (if i = 0 then x else y) := by
  have e : i = 0 ∨ i = 1 := by omega
  rcases e with rfl | rfl
  · exact atI_nat (j := 0) rfl
  · exact atI_nat (j := 1) rfl
theorem ok_number (F : FunD K "_law_number" "_law_number" (defArgs s__law_number) (defBody s__law_number) (defScope s__law_number) dvs [] f fd) (k__law_drawn : KnDr P w K mg base) (g_min : mg "min" = none) : FnOk P w K mg base CX0 2 f fd ["_law_state", "_law_low", "_law_high"] (spNumber K) := by
  refine F.ok sc__law_number (fun vs H Q E h => ?_) (fun cdv A outer s H vs Q E hr h => ?_)
  · obtain ⟨S, lo, hi, rfl, _⟩ := h
    rfl
  · obtain ⟨S, lo, hi, rfl, hst, h1, h2, q⟩ := h
    refine ⟨_, PSs.nox (pss_cons (ps_set (i := 3) sc__law_number.nd rfl (Or.inl rfl) (pe_op op_add (pe_op op_sub (pv 2) (pv 1)) pe_int))
      (pss_cons (ps_set (i := 4) sc__law_number.nd rfl (Or.inl rfl) (pk k__law_drawn hr (by decide) rfl pass0 (pa_cons (pv 0) (pa_cons pe_int pa_nil))))
      (pss_cons (ps_if (pt_cmpR op_lt (pv 4) pe_int (nomark _)) (pss_one (ps_ret (pe_ix ix_list (pe_lst (pa_cons (pv 1) (pa_cons (pv 2) pa_nil))) (pv 4) (fun _ _ => rfl)))) pss_nil)
      (pss_one (ps_ret (pe_op op_add (pv 1) (pk k__law_drawn hr (by decide) rfl pass0 (pa_cons (pv 0) (pa_cons (pe_ix ix_list (pe_lst (pa_cons (pv 3) (pa_cons (pe_callB (call_min2 rfl) rfl g_min (by decide +kernel) (pa_cons pe_int (pa_cons (pv 3) pa_nil))) pa_nil))) (pe_op op_sub (pv 4) pe_int) (fun _ _ => rfl)) pa_nil))))))))), ?_⟩
    refine ⟨_, rfl, _, rfl, _, _, rfl, rfl, _, _, rfl, rfl, _, rfl, S, 4, rfl, hst, by decide, by decide, fun way H1 w0 w1 k1 => ⟨_, rfl, _, _, rfl, rfl, _, rfl, ?_⟩⟩
    by_cases hw : way < 2
    · rw [decide_eq_true hw]
      refine iteT ⟨_, rfl, _, rfl, line5 (by simp), fun p hp => ?_⟩
      refine ⟨_, rfl, _, _, _, _, rfl, rfl, SqL.of upd_same, two_ w0 hw, ?_⟩
      by_cases e : way = 0
      · rw [if_pos e]
        exact q _ _ (Int.le_refl _) h1 (k1.add hp)
      · rw [if_neg e]
        exact q _ _ h1 (Int.le_refl _) (k1.add hp)
    · rw [decide_eq_false hw]
      refine iteF ⟨_, rfl, _, rfl, _, rfl, _, rfl, _, _, rfl, line5 (by simp), fun p hp => ?_⟩
      have k2 := k1.add (o := .lst [.int (hi - lo + 1), .int (if hi - lo + 1 < 4 then hi - lo + 1 else 4)]) hp
      refine ⟨_, rfl, _, _, rfl, rfl, _, _, _, .int (if way - 2 = 0 then hi - lo + 1 else if hi - lo + 1 < 4 then hi - lo + 1 else 4), rfl, rfl, SqL.of upd_same, ?_, ?_⟩
      · have e := two_ (x := .int (hi - lo + 1)) (y := .int (if hi - lo + 1 < 4 then hi - lo + 1 else 4)) (i := way - 2) (by omega) (by omega)
        rw [e]
        split <;> rfl
      · have b : 0 < (if way - 2 = 0 then hi - lo + 1 else if hi - lo + 1 < 4 then hi - lo + 1 else 4) ∧ (if way - 2 = 0 then hi - lo + 1 else if hi - lo + 1 < 4 then hi - lo + 1 else 4) ≤ hi - lo + 1 := by
          split
          · omega
          · split <;> omega
        refine ⟨S, _, rfl, k2.st, b.1, by omega, fun r H3 r0 r1 k3 => ⟨_, _, rfl, rfl, ?_⟩⟩
        exact q _ _ (by omega) (by omega) (k2.trans k3)
end
end Bm
set_option maxHeartbeats 1600000
namespace Bm
open PySem PySem.Spec PyProof.Rows L2
section
variable {P : Program} {w : World} {K : PySem.W.Frag} {mg : Str → Option Value} {base : Heap} {f : Addr} {fd : FuncData} {dvs : List V}
abbrev KnNum (P : Program) (w : World) (K : PySem.W.Frag) (mg : Str → Option Value) (base : Heap) : Prop := Kn P w K mg base CX0 2 "_law_number" ["_law_state", "_law_low", "_law_high"] [] (spNumber K)
abbrev KnNm (P : Program) (w : World) (K : PySem.W.Frag) (mg : Str → Option Value) (base : Heap) (x : Str) (l : List Str) : Prop := Kn P w K mg base CX0 1 x [] [] (spNames l)
/-! _law_deed -/
def De.below (m : Int) : De → Prop
  | .jump _ g _ => g ≤ m
  | .call g _ => g ≤ m
  | _ => True
def spLDeed (K : PySem.W.Frag) : Sp := fun vs H Q _ => ∃ (S : Sk) (p m : Int), vs = [.ref S.st, .int p, .int m] ∧ St K H S ∧ 0 ≤ m ∧ m ≤ 65535 ∧ ∀ (d : De) q H', d.ok → d.reached p → d.below m → Kp K S H H' → H' q = some (.tup d.vals) → Q (.ref q) H'
abbrev N__law_deed : List Str := ["_law_state", "_law_place", "_law_most", "_law_way", "_law_d", "_law_a", "_law_b", "_law_word", "_law_low", "_law_high", "_law_far", "_law_there"]
theorem sc__law_deed : FnScope ["_law_state", "_law_place", "_law_most", "_law_way", "_law_d", "_law_a", "_law_b", "_law_word", "_law_low", "_law_high", "_law_far", "_law_there"] ["_law_state", "_law_place", "_law_most"] (defScope s__law_deed) := ⟨rfl, rfl, rfl, by decide +kernel, rfl, by decide +kernel, by decide +kernel⟩
theorem nat_of {r n : Int} (h0 : 0 ≤ r) (h1 : r < n) : ∃ k : Nat, r = (k : Int) ∧ k < n.toNat := ⟨r.toNat, by omega, by omega⟩
theorem at_nm {l : List Str} {k : Nat} (h : k < l.length) : atI (l.map V.str) (k : Int) = some (.str (nm l k)) := by
  refine atI_nat ?_
  rw [List.getElem?_map, List.getElem?_eq_getElem h]
  show some (V.str l[k]) = some (V.str (l.getD k ""))
  rw [List.getD_eq_getElem?_getD, List.getElem?_eq_getElem h]
  rfl
theorem sg_first : ∀ k, k < 7 → inV (.str (nm SG k)) [.str "halt", .str "rest", .str "back"] = decide (k < 3) := by decide +kernel
theorem ok_ldeed (F : FunD K "_law_deed" "_law_deed" (defArgs s__law_deed) (defBody s__law_deed) (defScope s__law_deed) dvs [] f fd) (k__law_drawn : KnDr P w K mg base) (k__law_number : KnNum P w K mg base)
    (k__law_plain : KnNm P w K mg base "_law_plain" SG) (k__law_pairs : KnNm P w K mg base "_law_pairs" SM) (k__law_times : KnNm P w K mg base "_law_times" TM) (g_min : mg "min" = none) (g_max : mg "max" = none) : FnOk P w K mg base CX0 3 f fd ["_law_state", "_law_place", "_law_most"] (spLDeed K) := by
  refine F.ok sc__law_deed (fun vs H Q E h => ?_) (fun cdv A outer s H vs Q E hr h => ?_)
  · obtain ⟨S, p, m, rfl, _⟩ := h
    rfl
  · obtain ⟨S, p, m, rfl, hst, hm0, hm1, q⟩ := h
    refine ⟨_, PSs.nox (pss_cons (ps_set (i := 3) sc__law_deed.nd rfl (Or.inl rfl) (pk k__law_drawn hr (by decide) rfl pass0 (pa_cons (pv 0) (pa_cons pe_int pa_nil))))
      (pss_cons (ps_par3 (i := 4) (j := 5) (l := 6) rfl sc__law_deed.nd rfl rfl rfl (by decide) (by decide) (by decide) rfl rfl rfl (pa_cons (pk k__law_drawn hr (by decide) rfl pass0 (pa_cons (pv 0) (pa_cons pe_int pa_nil))) (pa_cons (pk k__law_drawn hr (by decide) rfl pass0 (pa_cons (pv 0) (pa_cons pe_int pa_nil))) (pa_cons (pk k__law_drawn hr (by decide) rfl pass0 (pa_cons (pv 0) (pa_cons pe_int pa_nil))) pa_nil))) rfl)
      (pss_cons (ps_if (pt_cmpR op_lt (pv 3) pe_int (nomark _)) (pss_cons (ps_set (i := 7) sc__law_deed.nd rfl (Or.inl rfl) (pe_ix ix_list (pk0 k__law_plain hr (by decide) rfl pass0) (pk k__law_drawn hr (by decide) rfl pass0 (pa_cons (pv 0) (pa_cons pe_int pa_nil))) (fun _ _ => rfl)))
      (pss_one (ps_ret (pe_ifExp (pt_cmpR op_in_seq (pv 7) (pe_tup (pa_cons pe_str (pa_cons pe_str (pa_cons pe_str pa_nil)))) rfl) (pe_tup (pa_cons (pv 7) pa_nil)) (pe_tup (pa_cons (pv 7) (pa_cons (pv 5) pa_nil))))))) pss_nil)
      (pss_cons (ps_if (pt_cmpR op_lt (pv 3) pe_int (nomark _)) (pss_one (ps_ret (pe_tup (pa_cons (pe_ix ix_list (pk0 k__law_pairs hr (by decide) rfl pass0) (pk k__law_drawn hr (by decide) rfl pass0 (pa_cons (pv 0) (pa_cons pe_int pa_nil))) (fun _ _ => rfl)) (pa_cons (pv 4) (pa_cons (pv 5) (pa_cons (pv 6) pa_nil))))))) pss_nil)
      (pss_cons (ps_if (pt_cmpR op_lt (pv 3) pe_int (nomark _)) (pss_cons (ps_asg (pe_ix ix_list (pe_lst (pa_cons (pe_tup (pa_cons (pe_op op_sub pe_int pe_int) (pa_cons pe_int pa_nil))) (pa_cons (pe_tup (pa_cons pe_int (pa_cons pe_int pa_nil))) (pa_cons (pe_tup (pa_cons pe_int (pa_cons pe_int pa_nil))) (pa_cons (pe_tup (pa_cons pe_int (pa_cons pe_int pa_nil))) pa_nil))))) (pe_op op_sub (pv 3) pe_int) (fun _ _ => rfl)) (pg_tup rfl (pgs_cons (pg_name (i := 8) sc__law_deed.nd rfl (Or.inl rfl)) (pgs_cons (pg_name (i := 9) sc__law_deed.nd rfl (Or.inl rfl)) pgs_nil))))
      (pss_cons (ps_set (i := 7) sc__law_deed.nd rfl (Or.inl rfl) (pe_ix ix_list (pe_lst (pa_cons pe_str (pa_cons pe_str (pa_cons pe_str (pa_cons (pe_ix ix_list (pe_lst (pa_cons pe_str (pa_cons pe_str pa_nil))) (pk k__law_drawn hr (by decide) rfl pass0 (pa_cons (pv 0) (pa_cons pe_int pa_nil))) (fun _ _ => rfl)) pa_nil))))) (pe_op op_sub (pv 3) pe_int) (fun _ _ => rfl)))
      (pss_one (ps_ret (pe_op op_catA (pe_op op_catA (pe_tup (pa_cons (pv 7) (pa_cons (pv 4) pa_nil))) (pe_ifExp (pt_cmpR op_in_seq (pv 3) (pe_tup (pa_cons pe_int (pa_cons pe_int pa_nil))) rfl) (pe_tup (pa_cons (pv 5) pa_nil)) (pe_tup pa_nil))) (pe_tup (pa_cons (pk k__law_number hr (by decide) rfl pass0 (pa_cons (pv 0) (pa_cons (pv 8) (pa_cons (pv 9) pa_nil)))) pa_nil))))))) pss_nil)
      (pss_cons (ps_set (i := 10) sc__law_deed.nd rfl (Or.inl rfl) (pe_cmpR op_eq (pk k__law_drawn hr (by decide) rfl pass0 (pa_cons (pv 0) (pa_cons pe_int pa_nil))) pe_int (nomark _)))
      (pss_cons (ps_set (i := 11) sc__law_deed.nd rfl (Or.inl rfl) (pk k__law_drawn hr (by decide) rfl pass0 (pa_cons (pv 0) (pa_cons (pe_op op_add (pv 2) pe_int) pa_nil))))
      (Evl.pss_cut (ps_if (pt_not (pt_val (pv 10))) (pss_cons (ps_set (i := 11) sc__law_deed.nd rfl (Or.inl rfl) (pe_callB (call_max2 rfl) rfl g_max (by decide +kernel) (pa_cons pe_int (pa_cons (pe_callB (call_min2 rfl) rfl g_min (by decide +kernel) (pa_cons (pv 2) (pa_cons (pe_callB (call_max2 rfl) rfl g_max (by decide +kernel) (pa_cons (pe_op op_sub (pv 1) pe_int) (pa_cons (pe_callB (call_min2 rfl) rfl g_min (by decide +kernel) (pa_cons (pe_op op_add (pv 1) pe_int) (pa_cons (pv 11) pa_nil))) pa_nil))) pa_nil))) pa_nil))))
      (pss_one (ps_set (i := 10) sc__law_deed.nd rfl (Or.inl rfl) (pe_not (pe_chain op_le op_le (pe_op op_sub (pv 1) pe_int) (pv 11) (pe_op op_add (pv 1) pe_int)))))) pss_nil)
      (pss_one (ps_ret (pe_ifExp (pt_cmpR op_eq (pv 3) pe_int (nomark _)) (pe_tup (pa_cons pe_str (pa_cons (pe_ix ix_list (pk0 k__law_times hr (by decide) rfl pass0) (pk k__law_drawn hr (by decide) rfl pass0 (pa_cons (pv 0) (pa_cons pe_int pa_nil))) (fun _ _ => rfl)) (pa_cons (pv 11) (pa_cons (pv 10) pa_nil))))) (pe_tup (pa_cons pe_str (pa_cons (pv 11) (pa_cons (pv 10) pa_nil))))))))))))))), ?_⟩
    refine ⟨_, rfl, S, 10, rfl, hst, by decide, by decide, fun way H1 w0 w1 k1 => ?_⟩
    refine ⟨_, rfl, S, 8, rfl, k1.st, by decide, by decide, fun d H2 d0 d1 k2 => ⟨_, rfl, S, 8, rfl, k2.st, by decide, by decide, fun a H3 a0 a1 k3 => ⟨_, rfl, S, 8, rfl, k3.st, by decide, by decide, fun b H4 b0 b1 k4 => ⟨_, _, _, rfl, ?_⟩⟩⟩⟩
    have kk := ((k1.trans k2).trans k3).trans k4
    clear k1 k2 k3 k4
    refine ⟨_, rfl, _, _, rfl, rfl, _, rfl, ?_⟩
    by_cases c1 : way < 2
    · rw [decide_eq_true c1]
      refine iteT ⟨rfl, fun l H5 hl s5 h5 => ⟨_, rfl, S, 7, rfl, kk.st.same s5, by decide, by decide, fun r H6 r0 r1 k6 => ?_⟩⟩
      obtain ⟨k, rfl, hk⟩ := nat_of r0 r1
      have hk : k < 7 := hk
      obtain ⟨ls, hls⟩ := kk.st.lst
      have nl : l ≠ S.st := Ne.symm (ne_of_none hls hl)
      have k5 := (kk.same s5).trans k6
      refine ⟨_, _, _, _, rfl, rfl, k6.lst nl (SqL.of h5), at_nm hk, ?_⟩
      refine ⟨_, rfl, line5 (by simp), fun p1 hp1 => ?_⟩
      refine ⟨_, _, rfl, .inr (SqT.of upd_same), rfl, rfl, _, rfl, ?_⟩
      have e3 := sg_first k hk
      show if inV (.str (nm SG k)) [.str "halt", .str "rest", .str "back"] = true then _ else _
      rw [e3]
      have k7 := k5.add (o := .tup [.str "halt", .str "rest", .str "back"]) hp1
      by_cases c4 : k < 3
      · rw [decide_eq_true c4]
        exact iteT ⟨_, rfl, line5 (by simp), laid fun q' H8 _ s8 h8 => q (.sgl k) q' H8 c4 trivial trivial (k7.same s8) h8⟩
      · rw [decide_eq_false c4]
        exact iteF ⟨_, rfl, _, rfl, line5 (by simp), laid fun q' H8 _ s8 h8 => q (.reg k a) q' H8 ⟨by omega, hk, by omega, by omega⟩ trivial trivial (k7.same s8) h8⟩
    · rw [decide_eq_false c1]
      refine iteF ⟨_, rfl, _, _, rfl, rfl, _, rfl, ?_⟩
      by_cases c2 : way < 4
      · rw [decide_eq_true c2]
        refine iteT ⟨rfl, fun l H5 hl s5 h5 => ⟨_, rfl, S, 8, rfl, kk.st.same s5, by decide, by decide, fun r H6 r0 r1 k6 => ?_⟩⟩
        obtain ⟨k, rfl, hk⟩ := nat_of r0 r1
        have hk : k < 8 := hk
        obtain ⟨ls, hls⟩ := kk.st.lst
        have nl : l ≠ S.st := Ne.symm (ne_of_none hls hl)
        have k5 := (kk.same s5).trans k6
        refine ⟨_, _, _, _, rfl, rfl, k6.lst nl (SqL.of h5), at_nm hk, ?_⟩
        exact ⟨_, rfl, _, rfl, _, rfl, line5 (by simp), laid fun q' H8 _ s8 h8 => q (.sum k d a b) q' H8 ⟨hk, ⟨by omega, by omega⟩, ⟨by omega, by omega⟩, by omega, by omega⟩ trivial trivial (k5.same s8) h8⟩
      · rw [decide_eq_false c2]
        refine iteF ⟨_, rfl, _, _, rfl, rfl, _, rfl, ?_⟩
        by_cases c3 : way < 8
        · rw [decide_eq_true c3]
          refine iteT ?_
          refine ⟨_, _, rfl, rfl, line5 (by simp), fun p1 hp1 => ?_⟩
          have s5 : Same H4 (upd H4 p1 (.tup [.int (0 - 32), .int 31])) := Same.add hp1
          have e1 : (upd H4 p1 (.tup [.int (0 - 32), .int 31])) p1 = some (.tup [.int (0 - 32), .int 31]) := upd_same
          generalize upd H4 p1 (.tup [.int (0 - 32), .int 31]) = H5 at s5 e1 ⊢
          refine ⟨line5 (by simp), fun p2 hp2 => ?_⟩
          have s6 : Same H5 (upd H5 p2 (.tup [.int 0, .int 511])) := Same.add hp2
          have e2 : (upd H5 p2 (.tup [.int 0, .int 511])) p2 = some (.tup [.int 0, .int 511]) := upd_same
          generalize upd H5 p2 (.tup [.int 0, .int 511]) = H6 at s6 e2 ⊢
          refine ⟨line5 (by simp), fun p3 hp3 => ?_⟩
          have s7 : Same H6 (upd H6 p3 (.tup [.int 0, .int 127])) := Same.add hp3
          have e3 : (upd H6 p3 (.tup [.int 0, .int 127])) p3 = some (.tup [.int 0, .int 127]) := upd_same
          generalize upd H6 p3 (.tup [.int 0, .int 127]) = H7 at s7 e3 ⊢
          refine ⟨line5 (by simp), fun p4 hp4 => ?_⟩
          have s8 : Same H7 (upd H7 p4 (.tup [.int 0, .int 63])) := Same.add hp4
          have e4 : (upd H7 p4 (.tup [.int 0, .int 63])) p4 = some (.tup [.int 0, .int 63]) := upd_same
          generalize upd H7 p4 (.tup [.int 0, .int 63]) = H8 at s8 e4 ⊢
          refine ⟨line5 (by simp), fun l hl => ?_⟩
          have s9 : Same H8 (upd H8 l (.lst [.ref p1, .ref p2, .ref p3, .ref p4])) := Same.add hl
          have e9 : (upd H8 l (.lst [.ref p1, .ref p2, .ref p3, .ref p4])) l = some (.lst [.ref p1, .ref p2, .ref p3, .ref p4]) := upd_same
          generalize upd H8 l (.lst [.ref p1, .ref p2, .ref p3, .ref p4]) = H9 at s9 e9 ⊢
          have kA := ((((kk.same s5).same s6).same s7).same s8).same s9
          have f1 := s9 _ _ (s8 _ _ (s7 _ _ (s6 _ _ e1)))
          have f2 := s9 _ _ (s8 _ _ (s7 _ _ e2))
          have f3 := s9 _ _ (s8 _ _ e3)
          have f4 := s9 _ _ e4
          have pick : ∃ tp lo hi, atI [V.ref p1, .ref p2, .ref p3, .ref p4] (way - 4) = some (.ref tp) ∧ H9 tp = some (.tup [.int lo, .int hi]) ∧ ((way = 4 ∧ lo = 0 - 32 ∧ hi = 31) ∨ (way = 5 ∧ lo = 0 ∧ hi = 511) ∨ (way = 6 ∧ lo = 0 ∧ hi = 127) ∨ (way = 7 ∧ lo = 0 ∧ hi = 63)) := by
            have e : way = 4 ∨ way = 5 ∨ way = 6 ∨ way = 7 := by omega
            rcases e with rfl | rfl | rfl | rfl
            · exact ⟨p1, 0 - 32, 31, atI_nat (j := 0) rfl, f1, .inl ⟨rfl, rfl, rfl⟩⟩
            · exact ⟨p2, 0, 511, atI_nat (j := 1) rfl, f2, .inr (.inl ⟨rfl, rfl, rfl⟩)⟩
            · exact ⟨p3, 0, 127, atI_nat (j := 2) rfl, f3, .inr (.inr (.inl ⟨rfl, rfl, rfl⟩))⟩
            · exact ⟨p4, 0, 63, atI_nat (j := 3) rfl, f4, .inr (.inr (.inr ⟨rfl, rfl, rfl⟩))⟩
          obtain ⟨tp, lo, hi, hat, htp, hlh⟩ := pick
          refine ⟨_, rfl, _, _, rfl, rfl, _, _, _, _, rfl, rfl, SqL.of e9, hat, tp, _, rfl, SqT.of htp, rfl, _, _, rfl, _, _, rfl, rfl, ?_⟩
          clear f1 f2 f3 f4 hat htp e9 e4 e3 e2 e1 s5 s6 s7 s8 s9 hp1 hp2 hp3 hp4 hl
          -- the word
          clear p1 p2 p3 p4 l
          refine ⟨line5 (by simp), fun p1 hp1 => ?_⟩
          have s5 : Same H9 (upd H9 p1 (.lst [.str "load", .str "store"])) := Same.add hp1
          have e1 : (upd H9 p1 (.lst [.str "load", .str "store"])) p1 = some (.lst [.str "load", .str "store"]) := upd_same
          generalize upd H9 p1 (.lst [.str "load", .str "store"]) = Ha at s5 e1 ⊢
          refine ⟨_, rfl, S, 2, rfl, (kA.same s5).st, by decide, by decide, fun r Hb r0 r1 k6 => ?_⟩
          obtain ⟨ls, hls⟩ := kA.st.lst
          have n1 : p1 ≠ S.st := Ne.symm (ne_of_none hls hp1)
          refine ⟨_, _, _, _, rfl, rfl, k6.lst n1 (SqL.of e1), two_ r0 r1, line5 (by simp), fun l hl => ?_⟩
          have s7 : Same Hb (upd Hb l (.lst [.str "plus", .str "set", .str "high", if r = 0 then .str "load" else .str "store"])) := Same.add hl
          have e7 : (upd Hb l (.lst [.str "plus", .str "set", .str "high", if r = 0 then .str "load" else .str "store"])) l = some (.lst [.str "plus", .str "set", .str "high", if r = 0 then .str "load" else .str "store"]) := upd_same
          generalize upd Hb l (.lst [.str "plus", .str "set", .str "high", if r = 0 then .str "load" else .str "store"]) = Hc at s7 e7 ⊢
          have kB := ((kA.same s5).trans k6).same s7
          have pick2 : ∃ wd : Str, atI [V.str "plus", .str "set", .str "high", (if r = 0 then V.str "load" else V.str "store")] (way - 4) = some (.str wd) ∧ ((way = 4 ∧ wd = "plus") ∨ (way = 5 ∧ wd = "set") ∨ (way = 6 ∧ wd = "high") ∨ (way = 7 ∧ wd = "load") ∨ (way = 7 ∧ wd = "store")) := by
            have e : way = 4 ∨ way = 5 ∨ way = 6 ∨ way = 7 := by omega
            rcases e with rfl | rfl | rfl | rfl
            · exact ⟨_, atI_nat (j := 0) rfl, .inl ⟨rfl, rfl⟩⟩
            · exact ⟨_, atI_nat (j := 1) rfl, .inr (.inl ⟨rfl, rfl⟩)⟩
            · exact ⟨_, atI_nat (j := 2) rfl, .inr (.inr (.inl ⟨rfl, rfl⟩))⟩
            · by_cases e0 : r = 0
              · rw [if_pos e0]
                exact ⟨_, atI_nat (j := 3) rfl, .inr (.inr (.inr (.inl ⟨rfl, rfl⟩)))⟩
              · rw [if_neg e0]
                exact ⟨_, atI_nat (j := 3) rfl, .inr (.inr (.inr (.inr ⟨rfl, rfl⟩)))⟩
          obtain ⟨wd, hat, hwd⟩ := pick2
          refine ⟨_, rfl, _, _, rfl, rfl, _, _, _, _, rfl, rfl, SqL.of e7, hat, ?_⟩
          clear hat e7 s7 s5 e1
          have glue : ∀ (Hd : Hp) (t1 : Addr) (xs : List V) (H7 : Hp), Kp K S Hd H7 → SqT K Hd t1 xs → SqT K H7 t1 xs := fun _ _ _ _ k h => k.tup h
          refine ⟨_, rfl, _, rfl, line5 (by simp), fun p1 hp1 => ?_⟩
          have sd : Same Hc (upd Hc p1 (.tup [.str wd, .int d])) := Same.add hp1
          have ed : (upd Hc p1 (.tup [.str wd, .int d])) p1 = some (.tup [.str wd, .int d]) := upd_same
          generalize upd Hc p1 (.tup [.str wd, .int d]) = Hd at sd ed ⊢
          refine ⟨_, rfl, line5 (by simp), fun p2 hp2 => ?_⟩
          have se : Same Hd (upd Hd p2 (.tup [.int 4, .int 7])) := Same.add hp2
          have ee : (upd Hd p2 (.tup [.int 4, .int 7])) p2 = some (.tup [.int 4, .int 7]) := upd_same
          generalize upd Hd p2 (.tup [.int 4, .int 7]) = He at se ee ⊢
          refine ⟨_, _, rfl, .inr (SqT.of ee), rfl, rfl, _, rfl, ?_⟩
          have kE := (kB.same sd).same se
          have ed2 := se _ _ ed
          show if inV (.int way) [.int 4, .int 7] = true then _ else _
          have hin : inV (.int way) [.int 4, .int 7] = decide (way = 4 ∨ way = 7) := by
            have e : way = 4 ∨ way = 5 ∨ way = 6 ∨ way = 7 := by omega
            rcases e with rfl | rfl | rfl | rfl <;> decide +kernel
          rw [hin]
          clear hin ee se hp2 glue
          by_cases c5 : way = 4 ∨ way = 7
          · rw [decide_eq_true c5]
            refine iteT ⟨_, rfl, line5 (by simp), fun p3 hp3 => ?_⟩
            have sf : Same He (upd He p3 (.tup [.int a])) := Same.add hp3
            have ef : (upd He p3 (.tup [.int a])) p3 = some (.tup [.int a]) := upd_same
            generalize upd He p3 (.tup [.int a]) = Hf at sf ef ⊢
            refine ⟨_, _, _, _, rfl, rfl, SqT.of (sf _ _ ed2), SqT.of ef, line5 (by simp), (fun z => by cases z), (fun _ z => by cases z), fun _ _ p4 hp4 => ?_⟩
            have sg : Same Hf (upd Hf p4 (.tup ([.str wd, .int d] ++ [.int a]))) := Same.add hp4
            have eg : (upd Hf p4 (.tup ([.str wd, .int d] ++ [.int a]))) p4 = some (.tup ([.str wd, .int d] ++ [.int a])) := upd_same
            generalize upd Hf p4 (.tup ([.str wd, .int d] ++ [.int a])) = Hg at sg eg ⊢
            have kG := (kE.same sf).same sg
            refine ⟨_, rfl, _, rfl, _, rfl, S, lo, hi, rfl, kG.st, by omega, by omega, fun n Hh n0 n1 kh => ⟨line5 (by simp), fun p5 hp5 => ?_⟩⟩
            have si : Same Hh (upd Hh p5 (.tup [.int n])) := Same.add hp5
            have ei : (upd Hh p5 (.tup [.int n])) p5 = some (.tup [.int n]) := upd_same
            generalize upd Hh p5 (.tup [.int n]) = Hi at si ei ⊢
            refine ⟨_, _, _, _, rfl, rfl, Same.tup si (kh.tup (SqT.of eg)), SqT.of ei, line5 (by simp), (fun z => by cases z), (fun _ z => by cases z), fun _ _ p6 hp6 => ?_⟩
            have kI := ((kG.trans kh).same si).add (o := .tup (([.str wd, .int d] ++ [.int a]) ++ [.int n])) hp6
            rcases hwd with ⟨w1, rfl⟩ | ⟨w1, rfl⟩ | ⟨w1, rfl⟩ | ⟨w1, rfl⟩ | ⟨w1, rfl⟩
            · exact q (.plus d a n) _ _ ⟨⟨by omega, by omega⟩, ⟨by omega, by omega⟩, by omega, by omega⟩ trivial trivial kI upd_same
            · omega
            · omega
            · exact q (.load d a n) _ _ ⟨⟨by omega, by omega⟩, ⟨by omega, by omega⟩, by omega, by omega⟩ trivial trivial kI upd_same
            · exact q (.store d a n) _ _ ⟨⟨by omega, by omega⟩, ⟨by omega, by omega⟩, by omega, by omega⟩ trivial trivial kI upd_same
          · rw [decide_eq_false c5]
            refine iteF ⟨line5 (by simp), fun p3 hp3 => ?_⟩
            have sf : Same He (upd He p3 (.tup [])) := Same.add hp3
            have ef : (upd He p3 (.tup [])) p3 = some (.tup []) := upd_same
            generalize upd He p3 (.tup []) = Hf at sf ef ⊢
            refine ⟨_, _, _, _, rfl, rfl, SqT.of (sf _ _ ed2), SqT.of ef, line5 (by simp), (fun z => by cases z), (fun _ _ => ?_), (fun _ z => absurd rfl z)⟩
            have kG := kE.same sf
            refine ⟨_, rfl, _, rfl, _, rfl, S, lo, hi, rfl, kG.st, by omega, by omega, fun n Hh n0 n1 kh => ⟨line5 (by simp), fun p5 hp5 => ?_⟩⟩
            have si : Same Hh (upd Hh p5 (.tup [.int n])) := Same.add hp5
            have ei : (upd Hh p5 (.tup [.int n])) p5 = some (.tup [.int n]) := upd_same
            generalize upd Hh p5 (.tup [.int n]) = Hi at si ei ⊢
            refine ⟨_, _, _, _, rfl, rfl, Same.tup si (kh.tup (SqT.of (sf _ _ ed2))), SqT.of ei, line5 (by simp), (fun z => by cases z), (fun _ z => by cases z), fun _ _ p6 hp6 => ?_⟩
            have kI := ((kG.trans kh).same si).add (o := .tup ([.str wd, .int d] ++ [.int n])) hp6
            rcases hwd with ⟨w1, rfl⟩ | ⟨w1, rfl⟩ | ⟨w1, rfl⟩ | ⟨w1, rfl⟩ | ⟨w1, rfl⟩
            · omega
            · exact q (.set d n) _ _ ⟨⟨by omega, by omega⟩, by omega, by omega⟩ trivial trivial kI upd_same
            · exact q (.high d n) _ _ ⟨⟨by omega, by omega⟩, by omega, by omega⟩ trivial trivial kI upd_same
            · omega
            · omega
        · rw [decide_eq_false c3]
          refine iteF ?_
          refine ⟨_, rfl, S, 3, rfl, kk.st, by decide, by decide, fun r H5 r0 r1 k5 => ⟨rfl, ?_⟩⟩
          refine ⟨_, rfl, _, rfl, _, _, rfl, rfl, S, m + 1, rfl, (kk.trans k5).st, by omega, by omega, fun g0 H6 g1 g2 k6 => ?_⟩
          have k7 := (kk.trans k5).trans k6
          refine ⟨fun σ H' => ∃ (fb : Bool) (g : Int), σ = [some (.ref S.st), some (.int p), some (.int m), some (.int way), some (.int d), some (.int a), some (.int b), none, none, none, some (.bl fb), some (.int g)] ∧ H' = H6 ∧ 0 ≤ g ∧ g ≤ m ∧ (fb = false → near g p), ?_, ?_⟩
          · refine ⟨_, rfl, _, rfl, ?_⟩
            cases hfar : decide (V.int r = V.int 0) with
            | true => exact iteF ⟨true, g0, rfl, rfl, g1, by omega, fun z => by cases z⟩
            | false =>
              refine iteT ?_
              refine ⟨_, rfl, _, rfl, _, _, rfl, rfl, _, rfl, _, _, rfl, rfl, _, rfl, _, _, rfl, _, _, rfl, _, _, rfl, _, _, rfl, ?_⟩
              have bound : ∀ t : Int, (if (if (if p - 15 < (if g0 < p + 16 then g0 else p + 16) then (if g0 < p + 16 then g0 else p + 16) else p - 15) < m then (if p - 15 < (if g0 < p + 16 then g0 else p + 16) then (if g0 < p + 16 then g0 else p + 16) else p - 15) else m) > 0 then (if (if p - 15 < (if g0 < p + 16 then g0 else p + 16) then (if g0 < p + 16 then g0 else p + 16) else p - 15) < m then (if p - 15 < (if g0 < p + 16 then g0 else p + 16) then (if g0 < p + 16 then g0 else p + 16) else p - 15) else m) else 0) = t → 0 ≤ t ∧ t ≤ m := by
                intro t ht
                repeat' split at ht
                all_goals omega
              generalize hT : (if (if (if p - 15 < (if g0 < p + 16 then g0 else p + 16) then (if g0 < p + 16 then g0 else p + 16) else p - 15) < m then (if p - 15 < (if g0 < p + 16 then g0 else p + 16) then (if g0 < p + 16 then g0 else p + 16) else p - 15) else m) > 0 then (if (if p - 15 < (if g0 < p + 16 then g0 else p + 16) then (if g0 < p + 16 then g0 else p + 16) else p - 15) < m then (if p - 15 < (if g0 < p + 16 then g0 else p + 16) then (if g0 < p + 16 then g0 else p + 16) else p - 15) else m) else 0) = t
              obtain ⟨t0, t1⟩ := bound t hT
              refine ⟨_, rfl, _, _, rfl, rfl, _, rfl, _, _, rfl, rfl, _, rfl, ?_⟩
              by_cases c6 : p - 15 ≤ t
              · rw [decide_eq_true c6]
                refine iteT ⟨_, rfl, _, _, rfl, rfl, _, _, rfl, rfl, _, rfl, ?_⟩
                refine ⟨!decide (t ≤ p + 16), t, rfl, rfl, t0, t1, fun z => ?_⟩
                have z2 : decide (t ≤ p + 16) = true := by
                  cases e : decide (t ≤ p + 16) with
                  | true => rfl
                  | false => rw [e] at z; cases z
                have z3 := of_decide_eq_true z2
                exact ⟨by omega, by omega⟩
              · rw [decide_eq_false c6]
                exact iteF ⟨_, rfl, true, t, rfl, rfl, t0, t1, fun z => by cases z⟩
          · rintro σ' H' ⟨fb, g, rfl, rfl, hg0, hg1, hn⟩
            refine ⟨_, rfl, rfl, _, rfl, ?_⟩
            by_cases c8 : way = 8
            · rw [decide_eq_true (congrArg V.int c8)]
              refine iteT ⟨rfl, fun l H7 hl s7 e7 => ⟨_, rfl, S, 7, rfl, k7.st.same s7, by decide, by decide, fun r H8 r0 r1 k8 => ?_⟩⟩
              obtain ⟨k, rfl, hk⟩ := nat_of r0 r1
              have hk : k < 7 := hk
              obtain ⟨ls, hls⟩ := k7.st.lst
              have nl : l ≠ S.st := Ne.symm (ne_of_none hls hl)
              refine ⟨_, _, _, _, rfl, rfl, k8.lst nl (SqL.of e7), at_nm hk, ?_⟩
              refine ⟨_, rfl, _, rfl, line5 (by simp), laid fun q' H9 _ s9 h9 => q (.jump k g fb) q' H9 ⟨hk, hg0, by omega⟩ ?_ hg1 (((k7.same s7).trans k8).same s9) h9⟩
              cases fb with
              | true => trivial
              | false => exact hn rfl
            · rw [decide_eq_false (fun z => c8 (V.int.inj z))]
              refine iteF ⟨_, rfl, _, rfl, line5 (by simp), laid fun q' H9 _ s9 h9 => q (.call g fb) q' H9 ⟨hg0, by omega⟩ ?_ hg1 (k7.same s9) h9⟩
              cases fb with
              | true => trivial
              | false => exact hn rfl
end
end Bm
set_option maxHeartbeats 1600000
namespace Bm
open PySem PySem.Spec PyProof.Rows L2
/-! sum of a tuple -/
def rSumT (K : PySem.W.Frag) : List V → Hp → VK → Prop := fun vs H Q => ∃ (a : Addr) (ns : List Int), vs = [V.ref a] ∧ SqT K H a (ns.map V.int) ∧ Q (.int ns.sum) H
theorem cr_sumT {X : Cx} (hc : X.calm = true) : CallR X (.builtin "sum") (rSumT X.K) := by
  intro pn s0 σ G ps us Q J rp ⟨a, zs, ep, st, q⟩
  subst ep
  obtain ⟨its, rv, tup, _⟩ := J.tuple st
  rw [Vals.ref1 rp]
  have ai := rv.ints
  obtain ⟨ys, ey⟩ := ai.allInts.items
  have nz : numsOf (intItems ys).toList = zs := ey ▸ ai.numsOf
  rw [nums_intItems] at nz
  rw [ey] at tup
  refine PySem.W.ktm_sumG (J.ok.hd hc) tup fun g1 tk t2 k2 => ?_
  rw [preSum_eq, List.take_of_length_le (by simp)]
  rw [nz]
  exact ⟨.int _, G, J.kept k2, ⟨_, rfl⟩, q⟩
theorem inV_strs (z : Str) (l : List Str) : inV (.str z) (l.map V.str) = l.any fun y => y == z := by
  unfold inV
  rw [List.any_map]
  rfl
theorem ixs {l : List Str} {k : Nat} (e : l[k]? = some (nm l k) ∧ ∀ m, m < k → l[m]? ≠ some (nm l k)) : (l.map V.str)[k]? = some (.str (nm l k)) ∧ eqV (.str (nm l k)) (.str (nm l k)) = true ∧
    ∀ (m : Nat) (z' : V), m < k → (l.map V.str)[m]? = some z' → eqV z' (.str (nm l k)) = false := by
  refine ⟨by rw [List.getElem?_map, e.1]; rfl, ?_, fun m z' hm hz => ?_⟩
  · show (nm l k == nm l k) = true
    exact beq_self_eq_true _
  · rw [List.getElem?_map] at hz
    cases em : l[m]? with
    | none => rw [em] at hz; cases hz
    | some y =>
      rw [em] at hz
      have ey : z' = .str y := (Option.some.inj hz).symm
      rw [ey]
      show (y == nm l k) = false
      refine beq_eq_false_iff_ne.mpr fun z => ?_
      rw [z] at em
      exact e.2 m hm em
theorem sg_in : ∀ k, k < 7 → (SG.any fun y => y == nm SG k) = true := by decide +kernel
theorem sm_in : ∀ k, k < 8 → (SG.any fun y => y == nm SM k) = false ∧ (SM.any fun y => y == nm SM k) = true := by decide +kernel
def FV : List Str := ["plus", "set", "high", "load", "store"]
theorem fv_at : ∀ k, k < 5 → (FV[k]? = some (nm FV k) ∧ ∀ m, m < k → FV[m]? ≠ some (nm FV k)) ∧ (SG.any fun y => y == nm FV k) = false ∧ (SM.any fun y => y == nm FV k) = false ∧ inV (.str (nm FV k)) [.str "jump", .str "call"] = false ∧
  inV (.str (nm FV k)) [.str "set", .str "high"] = decide (k = 1 ∨ k = 2) := by decide +kernel
theorem jc_in : (SG.any fun y => y == ("jump" : Str)) = false ∧ (SM.any fun y => y == ("jump" : Str)) = false ∧ (SG.any fun y => y == ("call" : Str)) = false ∧ (SM.any fun y => y == ("call" : Str)) = false ∧
  inV (.str "jump") [.str "jump", .str "call"] = true ∧ inV (.str "call") [.str "jump", .str "call"] = true := by decide +kernel
section
variable {P : Program} {w : World} {K : PySem.W.Frag} {mg : Str → Option Value} {base : Heap} {f : Addr} {fd : FuncData} {dvs : List V}
/-! _law_words -/
def spLWords (K : PySem.W.Frag) : Sp := fun vs H Q _ => ∃ (a : Addr) (d : De) (p : Int), vs = [.ref a, .int p] ∧ SqT K H a d.vals ∧ d.ok ∧ ∀ q H', Same H H' → H' q = some (.tup (vInts (d.words p))) → Q (.ref q) H'
abbrev N__law_words : List Str := ["_law_deed_here", "_law_place", "_law_word", "_law_rest", "_law_when", "_law_form", "_law_found"]
theorem sc__law_words : FnScope ["_law_deed_here", "_law_place", "_law_word", "_law_rest", "_law_when", "_law_form", "_law_found"] ["_law_deed_here", "_law_place"] (defScope s__law_words) := ⟨rfl, rfl, rfl, by decide +kernel, rfl, by decide +kernel, by decide +kernel⟩
theorem De.vals_cons (d : De) : ∃ z r, d.vals = .str z :: r := by cases d <;> exact ⟨_, _, rfl⟩
theorem ok_lwords (F : FunD K "_law_words" "_law_words" (defArgs s__law_words) (defBody s__law_words) (defScope s__law_words) dvs [] f fd) (k__law_plain : KnNm P w K mg base "_law_plain" SG) (k__law_pairs : KnNm P w K mg base "_law_pairs" SM) (k__law_times : KnNm P w K mg base "_law_times" TM)
    (g_sum : mg "sum" = none) (g_int : mg "int" = none) : FnOk P w K mg base CX0 2 f fd ["_law_deed_here", "_law_place"] (spLWords K) := by
  refine F.ok sc__law_words (fun vs H Q E h => ?_) (fun cdv A outer s H vs Q E hr h => ?_)
  · obtain ⟨a, d, p, rfl, _⟩ := h
    rfl
  · obtain ⟨a, d, p, rfl, hS, hok, q⟩ := h
    refine ⟨_, PSs.nox (pss_cons (ps_par (i := 2) (j := 3) rfl sc__law_words.nd rfl rfl (by decide) rfl rfl (pa_cons (pe_ix ix_tup (pv 0) pe_int (fun _ _ => rfl)) (pa_cons (pe_slice sl_tupA (pv 0) (po_some pe_int) po_none) pa_nil)) rfl)
      (pss_cons (ps_if (pt_cmpR op_in_seq (pv 2) (pk0 k__law_plain hr (by decide) rfl pass0) rfl) (pss_one (ps_ret (pe_tup (pa_cons (pe_op op_add (pe_op op_mul (pe_bm PySem.F.plainAttrs_list PySem.F.slot_list_index PySem.F.type_list_index mt_index (pk0 k__law_plain hr (by decide) rfl pass0) (pa_cons (pv 2) pa_nil)) pe_int) (pe_op op_mul (pe_callB (cr_sumT rfl) rfl g_sum (by decide +kernel) (pa_cons (pv 3) pa_nil)) pe_int)) pa_nil)))) pss_nil)
      (pss_cons (ps_if (pt_cmpR op_in_seq (pv 2) (pk0 k__law_pairs hr (by decide) rfl pass0) rfl) (pss_one (ps_ret (pe_tup (pa_cons (pe_op op_add (pe_op op_add (pe_op op_add (pe_op op_add pe_int (pe_op op_mul (pe_ix ix_tup (pv 3) pe_int (fun _ _ => rfl)) pe_int)) (pe_op op_mul (pe_ix ix_tup (pv 3) pe_int (fun _ _ => rfl)) pe_int)) (pe_op op_mul (pe_ix ix_tup (pv 3) pe_int (fun _ _ => rfl)) pe_int)) (pe_bm PySem.F.plainAttrs_list PySem.F.slot_list_index PySem.F.type_list_index mt_index (pk0 k__law_pairs hr (by decide) rfl pass0) (pa_cons (pv 2) pa_nil))) pa_nil)))) pss_nil)
      (pss_cons (ps_if (pt_cmpR op_in_seq (pv 2) (pe_tup (pa_cons pe_str (pa_cons pe_str pa_nil))) rfl) (pss_cons (ps_set (i := 4) sc__law_words.nd rfl (Or.inl rfl) (pe_ifExp (pt_cmpR op_eq (pv 2) pe_str (nomark _)) (pe_op op_mul (pe_bm PySem.F.plainAttrs_list PySem.F.slot_list_index PySem.F.type_list_index mt_index (pk0 k__law_times hr (by decide) rfl pass0) (pa_cons (pe_ix ix_tup (pv 3) pe_int (fun _ _ => rfl)) pa_nil)) pe_int) pe_int))
      (pss_cons (ps_set (i := 5) sc__law_words.nd rfl (Or.inl rfl) (pe_ix ix_list (pe_lst (pa_cons pe_int (pa_cons pe_int (pa_cons pe_int (pa_cons pe_int pa_nil))))) (pe_op op_add (pe_op op_mul pe_int (pe_callTy call_int1 rfl g_int (by decide +kernel) (pa_cons (pe_cmpR op_eq (pv 2) pe_str (nomark _)) pa_nil))) (pe_callTy call_int1 rfl g_int (by decide +kernel) (pa_cons (pe_ix ix_tup (pv 0) (pe_un un_neg pe_int) (fun _ _ => rfl)) pa_nil))) (fun _ _ => rfl)))
      (pss_one (ps_ret (pe_ifExp (pt_val (pe_ix ix_tup (pv 0) (pe_un un_neg pe_int) (fun _ _ => rfl))) (pe_tup (pa_cons (pe_op op_add (pv 5) (pv 4)) (pa_cons (pe_ix ix_tup (pv 0) (pe_un un_neg pe_int) (fun _ _ => rfl)) pa_nil))) (pe_tup (pa_cons (pe_op op_add (pe_op op_add (pv 5) (pv 4)) (pe_op op_modN (pe_op op_sub (pe_op op_sub (pe_ix ix_tup (pv 0) (pe_un un_neg pe_int) (fun _ _ => rfl)) (pv 1)) pe_int) pe_int)) pa_nil))))))) pss_nil)
      (pss_cons (ps_set (i := 6) sc__law_words.nd rfl (Or.inl rfl) (pe_op op_add (pe_op op_mul (pe_op op_add (pe_bm PySem.F.plainAttrs_list PySem.F.slot_list_index PySem.F.type_list_index mt_index (pe_lst (pa_cons pe_str (pa_cons pe_str (pa_cons pe_str (pa_cons pe_str (pa_cons pe_str pa_nil)))))) (pa_cons (pv 2) pa_nil)) pe_int) pe_int) (pe_op op_mul (pe_ix ix_tup (pv 3) pe_int (fun _ _ => rfl)) pe_int)))
      (pss_cons (ps_if (pt_cmpR op_in_seq (pv 2) (pe_tup (pa_cons pe_str (pa_cons pe_str pa_nil))) rfl) (pss_one (ps_ret (pe_tup (pa_cons (pe_op op_add (pv 6) (pe_ix ix_tup (pv 3) pe_int (fun _ _ => rfl))) pa_nil)))) pss_nil)
      (pss_one (ps_ret (pe_tup (pa_cons (pe_op op_add (pe_op op_add (pv 6) (pe_op op_mul (pe_ix ix_tup (pv 3) pe_int (fun _ _ => rfl)) pe_int)) (pe_op op_modN (pe_ix ix_tup (pv 3) pe_int (fun _ _ => rfl)) pe_int)) pa_nil)))))))))), ?_⟩
    have fin : ∀ (z z' : Int) (H3 : Hp), Same H H3 → d.words p = [z'] → z = z' → ∀ q', H3 q' = none → Q (.ref q') (upd H3 q' (.tup [.int z])) := fun z z' H3 s3 e1 e2 q' hq => q q' _ (Same.trans s3 (Same.add hq)) (by rw [upd_same, e1, e2]; rfl)
    have atT : ∀ (x0 x1 x2 : V), atI [x0, x1, x2] 2 = some x2 ∧ atI [x0, x1, x2] 1 = some x1 ∧ atI [x0, x1, x2] 0 = some x0 := fun x0 x1 x2 => ⟨atI_nat (j := 2) rfl, atI_nat (j := 1) rfl, atI_nat (j := 0) rfl⟩
    have at2 : ∀ (x0 x1 : V), atI [x0, x1] 1 = some x1 := fun x0 x1 => atI_nat (j := 1) rfl
    cases d with
    | sgl k =>
      have hk : k < 3 := hok
      have hk7 : k < 7 := Nat.lt_of_lt_of_le hk (by decide)
      have hS : SqT K H a [.str (nm SG k)] := hS
      refine ⟨_, rfl, _, _, _, _, rfl, rfl, hS, at0, _, rfl, _, rfl, a, _, rfl, hS, fun w => absurd w (not_whole_tail _ _), fun _ b hb => ⟨_, _, rfl, ?_⟩⟩
      have s1 : Same H (upd H b (.tup (cutV (.str (nm SG k) :: []) (some 1) none))) := Same.add hb
      have h1 : (upd H b (.tup (cutV (.str (nm SG k) :: []) (some 1) none))) b = some (.tup ([])) := upd_same.trans (congrArg (fun l => some (HO.tup l)) (cut_tail _ _))
      generalize upd H b (.tup (cutV (.str (nm SG k) :: []) (some 1) none)) = H1 at s1 h1 ⊢
      refine ⟨_, rfl, rfl, fun l1 H2 _ s2 h2 => ⟨_, _, rfl, .inl (SqL.of h2), rfl, flat_strs SG, _, rfl, ?_⟩⟩
      show if inV (.str (nm SG k)) (SG.map V.str) = true then _ else _
      rw [inV_strs, sg_in k hk7]
      refine iteT ⟨rfl, fun l2 H3 _ s3 h3 => ⟨.inl ⟨rfl, _, SqL.of h3⟩, _, rfl, _, _, _, _, _, rfl, rfl, SqL.of h3, rfl, flat_strs _, (ixs (sg_at k hk7)).1, (ixs (sg_at k hk7)).2.1, (ixs (sg_at k hk7)).2.2, ?_⟩⟩
      refine ⟨_, _, rfl, rfl, .inl ⟨by omega, by omega⟩, _, rfl, b, [], rfl, SqT.of (s3 _ _ (s2 _ _ h1)), _, _, rfl, rfl, .inl ⟨by decide, by decide⟩, _, _, rfl, rfl, line5 (by simp), ?_⟩
      exact fin _ _ H3 (Same.trans s1 (Same.trans s2 s3)) rfl (by show (k : Int) * 512 + ([] : List Int).sum * 64 = k * 512; simp)
    | reg k x =>
      obtain ⟨hk3, hk7, hx⟩ := hok
      have hx : 0 ≤ x ∧ x ≤ 7 := hx
      have hS : SqT K H a [.str (nm SG k), .int x] := hS
      refine ⟨_, rfl, _, _, _, _, rfl, rfl, hS, at0, _, rfl, _, rfl, a, _, rfl, hS, fun w => absurd w (not_whole_tail _ _), fun _ b hb => ⟨_, _, rfl, ?_⟩⟩
      have s1 : Same H (upd H b (.tup (cutV (.str (nm SG k) :: [.int x]) (some 1) none))) := Same.add hb
      have h1 : (upd H b (.tup (cutV (.str (nm SG k) :: [.int x]) (some 1) none))) b = some (.tup ([.int x])) := upd_same.trans (congrArg (fun l => some (HO.tup l)) (cut_tail _ _))
      generalize upd H b (.tup (cutV (.str (nm SG k) :: [.int x]) (some 1) none)) = H1 at s1 h1 ⊢
      refine ⟨_, rfl, rfl, fun l1 H2 _ s2 h2 => ⟨_, _, rfl, .inl (SqL.of h2), rfl, flat_strs SG, _, rfl, ?_⟩⟩
      show if inV (.str (nm SG k)) (SG.map V.str) = true then _ else _
      rw [inV_strs, sg_in k hk7]
      refine iteT ⟨rfl, fun l2 H3 _ s3 h3 => ⟨.inl ⟨rfl, _, SqL.of h3⟩, _, rfl, _, _, _, _, _, rfl, rfl, SqL.of h3, rfl, flat_strs _, (ixs (sg_at k hk7)).1, (ixs (sg_at k hk7)).2.1, (ixs (sg_at k hk7)).2.2, ?_⟩⟩
      refine ⟨_, _, rfl, rfl, .inl ⟨by omega, by omega⟩, _, rfl, b, [x], rfl, SqT.of (s3 _ _ (s2 _ _ h1)), _, _, rfl, rfl, .inl ⟨by simp; omega, by simp; omega⟩, _, _, rfl, rfl, line5 (by simp), ?_⟩
      exact fin _ _ H3 (Same.trans s1 (Same.trans s2 s3)) rfl (by show (k : Int) * 512 + ([x] : List Int).sum * 64 = k * 512 + x * 64; simp)
    | sum k x y z =>
      obtain ⟨hk, hx, hy, hz⟩ := hok
      have hx : 0 ≤ x ∧ x ≤ 7 := hx
      have hy : 0 ≤ y ∧ y ≤ 7 := hy
      have hz : 0 ≤ z ∧ z ≤ 7 := hz
      have hS : SqT K H a [.str (nm SM k), .int x, .int y, .int z] := hS
      refine ⟨_, rfl, _, _, _, _, rfl, rfl, hS, at0, _, rfl, _, rfl, a, _, rfl, hS, fun w => absurd w (not_whole_tail _ _), fun _ b hb => ⟨_, _, rfl, ?_⟩⟩
      have s1 : Same H (upd H b (.tup (cutV (.str (nm SM k) :: [.int x, .int y, .int z]) (some 1) none))) := Same.add hb
      have h1 : (upd H b (.tup (cutV (.str (nm SM k) :: [.int x, .int y, .int z]) (some 1) none))) b = some (.tup ([.int x, .int y, .int z])) := upd_same.trans (congrArg (fun l => some (HO.tup l)) (cut_tail _ _))
      generalize upd H b (.tup (cutV (.str (nm SM k) :: [.int x, .int y, .int z]) (some 1) none)) = H1 at s1 h1 ⊢
      refine ⟨_, rfl, rfl, fun l1 H2 _ s2 h2 => ⟨_, _, rfl, .inl (SqL.of h2), rfl, flat_strs SG, _, rfl, ?_⟩⟩
      show if inV (.str (nm SM k)) (SG.map V.str) = true then _ else _
      rw [inV_strs, (sm_in k hk).1]
      refine iteF ⟨_, rfl, rfl, fun l2 H3 _ s3 h3 => ⟨_, _, rfl, .inl (SqL.of h3), rfl, flat_strs SM, _, rfl, ?_⟩⟩
      show if inV (.str (nm SM k)) (SM.map V.str) = true then _ else _
      rw [inV_strs, (sm_in k hk).2]
      have h1' := SqT.of (K := K) (s3 _ _ (s2 _ _ h1))
      refine iteT ⟨_, rfl, _, _, _, _, rfl, rfl, h1', (atT _ _ _).2.2, _, _, rfl, rfl, .inl ⟨by omega, by omega⟩, _, _, rfl, rfl, _, rfl, _, _, _, _, rfl, rfl, h1', (atT _ _ _).2.1, _, _, rfl, rfl, .inl ⟨by omega, by omega⟩, _, _, rfl, rfl,
        _, rfl, _, _, _, _, rfl, rfl, h1', (atT _ _ _).1, _, _, rfl, rfl, .inl ⟨by omega, by omega⟩, _, _, rfl, rfl, rfl, fun l3 H4 _ s4 h4 => ⟨.inl ⟨rfl, _, SqL.of h4⟩, _, rfl, _, _, _, _, _, rfl, rfl, SqL.of h4, rfl, flat_strs _, (ixs (sm_at k hk)).1, (ixs (sm_at k hk)).2.1, (ixs (sm_at k hk)).2.2, ?_⟩⟩
      refine ⟨_, _, rfl, rfl, line5 (by simp), ?_⟩
      exact fin _ _ H4 (Same.trans s1 (Same.trans s2 (Same.trans s3 s4))) rfl rfl
    | plus x y n =>
      have hS : SqT K H a [.str (nm FV 0), .int x, .int y, .int n] := hS
      have hx : 0 ≤ x ∧ x ≤ 7 := hok.1
      have hy : 0 ≤ y ∧ y ≤ 7 := hok.2.1
      have hn := hok.2.2
      refine ⟨_, rfl, _, _, _, _, rfl, rfl, hS, at0, _, rfl, _, rfl, a, _, rfl, hS, fun w => absurd w (not_whole_tail _ _), fun _ b hb => ⟨_, _, rfl, ?_⟩⟩
      have s1 : Same H (upd H b (.tup (cutV (.str (nm FV 0) :: [.int x, .int y, .int n]) (some 1) none))) := Same.add hb
      have h1 : (upd H b (.tup (cutV (.str (nm FV 0) :: [.int x, .int y, .int n]) (some 1) none))) b = some (.tup ([.int x, .int y, .int n])) := upd_same.trans (congrArg (fun l => some (HO.tup l)) (cut_tail _ _))
      generalize upd H b (.tup (cutV (.str (nm FV 0) :: [.int x, .int y, .int n]) (some 1) none)) = H1 at s1 h1 ⊢
      refine ⟨_, rfl, rfl, fun l1 H2 _ s2 h2 => ⟨_, _, rfl, .inl (SqL.of h2), rfl, flat_strs SG, _, rfl, ?_⟩⟩
      show if inV (.str (nm FV 0)) (SG.map V.str) = true then _ else _
      rw [inV_strs, (fv_at 0 (by decide)).2.1]
      refine iteF ⟨_, rfl, rfl, fun l2 H3 _ s3 h3 => ⟨_, _, rfl, .inl (SqL.of h3), rfl, flat_strs SM, _, rfl, ?_⟩⟩
      show if inV (.str (nm FV 0)) (SM.map V.str) = true then _ else _
      rw [inV_strs, (fv_at 0 (by decide)).2.2.1]
      refine iteF ⟨_, rfl, line5 (by simp), fun p3 hp3 => ?_⟩
      have s4 : Same H3 (upd H3 p3 (.tup [.str "jump", .str "call"])) := Same.add hp3
      have h4 : (upd H3 p3 (.tup [.str "jump", .str "call"])) p3 = some (.tup [.str "jump", .str "call"]) := upd_same
      generalize upd H3 p3 (.tup [.str "jump", .str "call"]) = H4 at s4 h4 ⊢
      refine ⟨_, _, rfl, .inr (SqT.of h4), rfl, rfl, _, rfl, ?_⟩
      show if inV (.str (nm FV 0)) [.str "jump", .str "call"] = true then _ else _
      rw [(fv_at 0 (by decide)).2.2.2.1]
      have h1' := SqT.of (K := K) (s4 _ _ (s3 _ _ (s2 _ _ h1)))
      have sA := Same.trans s1 (Same.trans s2 (Same.trans s3 s4))
      refine iteF ⟨line5 (by simp), fun l5 hl5 => ?_⟩
      have s5 : Same H4 (upd H4 l5 (.lst [.str "plus", .str "set", .str "high", .str "load", .str "store"])) := Same.add hl5
      have h5 : (upd H4 l5 (.lst [.str "plus", .str "set", .str "high", .str "load", .str "store"])) l5 = some (.lst [.str "plus", .str "set", .str "high", .str "load", .str "store"]) := upd_same
      generalize upd H4 l5 (.lst [.str "plus", .str "set", .str "high", .str "load", .str "store"]) = H5 at s5 h5 ⊢
      have h5 : H5 l5 = some (.lst (FV.map V.str)) := h5
      have h1'' := Same.tup s5 h1'
      refine ⟨.inl ⟨rfl, _, SqL.of h5⟩, _, rfl, _, _, _, _, _, rfl, rfl, SqL.of h5, rfl, flat_strs _, (ixs (fv_at 0 (by decide)).1).1, (ixs (fv_at 0 (by decide)).1).2.1, (ixs (fv_at 0 (by decide)).1).2.2, ?_⟩
      refine ⟨_, _, rfl, rfl, _, _, rfl, rfl, .inl ⟨by decide, by decide⟩, _, rfl, _, _, _, _, rfl, rfl, h1'', at0, _, _, rfl, rfl, .inl ⟨by omega, by omega⟩, _, _, rfl, rfl, ?_⟩
      refine ⟨_, rfl, line5 (by simp), fun p6 hp6 => ?_⟩
      have s6 : Same H5 (upd H5 p6 (.tup [.str "set", .str "high"])) := Same.add hp6
      have h6 : (upd H5 p6 (.tup [.str "set", .str "high"])) p6 = some (.tup [.str "set", .str "high"]) := upd_same
      generalize upd H5 p6 (.tup [.str "set", .str "high"]) = H6 at s6 h6 ⊢
      refine ⟨_, _, rfl, .inr (SqT.of h6), rfl, rfl, _, rfl, ?_⟩
      have h1s := Same.tup s6 h1''
      show if inV (.str (nm FV 0)) [.str "set", .str "high"] = true then _ else _
      rw [(fv_at 0 (by decide)).2.2.2.2]
      refine iteF ⟨_, rfl, _, rfl, _, _, _, _, rfl, rfl, h1s, (atT _ _ _).2.1, _, _, rfl, rfl, .inl ⟨by omega, by omega⟩, _, _, rfl, rfl, _, rfl, _, _, _, _, rfl, rfl, h1s, (atT _ _ _).1, _, _, rfl, rfl, (show (64 : Int) ≠ 0 by decide), _, _, rfl, rfl, line5 (by simp), ?_⟩
      refine fin _ _ H6 (Same.trans sA (Same.trans s5 s6)) rfl ?_
      show (((0 : Nat) : Int) + 2) * 4096 + x * 512 + y * 64 + n.fmod 64 = 8192 + x * 512 + y * 64 + n % 64
      rw [Int.fmod_eq_emod_of_nonneg _ (by decide)]
      omega
    | set x n =>
      have hS : SqT K H a [.str (nm FV 1), .int x, .int n] := hS
      have hx : 0 ≤ x ∧ x ≤ 7 := hok.1
      have hn := hok.2
      refine ⟨_, rfl, _, _, _, _, rfl, rfl, hS, at0, _, rfl, _, rfl, a, _, rfl, hS, fun w => absurd w (not_whole_tail _ _), fun _ b hb => ⟨_, _, rfl, ?_⟩⟩
      have s1 : Same H (upd H b (.tup (cutV (.str (nm FV 1) :: [.int x, .int n]) (some 1) none))) := Same.add hb
      have h1 : (upd H b (.tup (cutV (.str (nm FV 1) :: [.int x, .int n]) (some 1) none))) b = some (.tup ([.int x, .int n])) := upd_same.trans (congrArg (fun l => some (HO.tup l)) (cut_tail _ _))
      generalize upd H b (.tup (cutV (.str (nm FV 1) :: [.int x, .int n]) (some 1) none)) = H1 at s1 h1 ⊢
      refine ⟨_, rfl, rfl, fun l1 H2 _ s2 h2 => ⟨_, _, rfl, .inl (SqL.of h2), rfl, flat_strs SG, _, rfl, ?_⟩⟩
      show if inV (.str (nm FV 1)) (SG.map V.str) = true then _ else _
      rw [inV_strs, (fv_at 1 (by decide)).2.1]
      refine iteF ⟨_, rfl, rfl, fun l2 H3 _ s3 h3 => ⟨_, _, rfl, .inl (SqL.of h3), rfl, flat_strs SM, _, rfl, ?_⟩⟩
      show if inV (.str (nm FV 1)) (SM.map V.str) = true then _ else _
      rw [inV_strs, (fv_at 1 (by decide)).2.2.1]
      refine iteF ⟨_, rfl, line5 (by simp), fun p3 hp3 => ?_⟩
      have s4 : Same H3 (upd H3 p3 (.tup [.str "jump", .str "call"])) := Same.add hp3
      have h4 : (upd H3 p3 (.tup [.str "jump", .str "call"])) p3 = some (.tup [.str "jump", .str "call"]) := upd_same
      generalize upd H3 p3 (.tup [.str "jump", .str "call"]) = H4 at s4 h4 ⊢
      refine ⟨_, _, rfl, .inr (SqT.of h4), rfl, rfl, _, rfl, ?_⟩
      show if inV (.str (nm FV 1)) [.str "jump", .str "call"] = true then _ else _
      rw [(fv_at 1 (by decide)).2.2.2.1]
      have h1' := SqT.of (K := K) (s4 _ _ (s3 _ _ (s2 _ _ h1)))
      have sA := Same.trans s1 (Same.trans s2 (Same.trans s3 s4))
      refine iteF ⟨line5 (by simp), fun l5 hl5 => ?_⟩
      have s5 : Same H4 (upd H4 l5 (.lst [.str "plus", .str "set", .str "high", .str "load", .str "store"])) := Same.add hl5
      have h5 : (upd H4 l5 (.lst [.str "plus", .str "set", .str "high", .str "load", .str "store"])) l5 = some (.lst [.str "plus", .str "set", .str "high", .str "load", .str "store"]) := upd_same
      generalize upd H4 l5 (.lst [.str "plus", .str "set", .str "high", .str "load", .str "store"]) = H5 at s5 h5 ⊢
      have h5 : H5 l5 = some (.lst (FV.map V.str)) := h5
      have h1'' := Same.tup s5 h1'
      refine ⟨.inl ⟨rfl, _, SqL.of h5⟩, _, rfl, _, _, _, _, _, rfl, rfl, SqL.of h5, rfl, flat_strs _, (ixs (fv_at 1 (by decide)).1).1, (ixs (fv_at 1 (by decide)).1).2.1, (ixs (fv_at 1 (by decide)).1).2.2, ?_⟩
      refine ⟨_, _, rfl, rfl, _, _, rfl, rfl, .inl ⟨by decide, by decide⟩, _, rfl, _, _, _, _, rfl, rfl, h1'', at0, _, _, rfl, rfl, .inl ⟨by omega, by omega⟩, _, _, rfl, rfl, ?_⟩
      refine ⟨_, rfl, line5 (by simp), fun p6 hp6 => ?_⟩
      have s6 : Same H5 (upd H5 p6 (.tup [.str "set", .str "high"])) := Same.add hp6
      have h6 : (upd H5 p6 (.tup [.str "set", .str "high"])) p6 = some (.tup [.str "set", .str "high"]) := upd_same
      generalize upd H5 p6 (.tup [.str "set", .str "high"]) = H6 at s6 h6 ⊢
      refine ⟨_, _, rfl, .inr (SqT.of h6), rfl, rfl, _, rfl, ?_⟩
      have h1s := Same.tup s6 h1''
      show if inV (.str (nm FV 1)) [.str "set", .str "high"] = true then _ else _
      rw [(fv_at 1 (by decide)).2.2.2.2]
      refine iteT ⟨_, rfl, _, rfl, _, _, _, _, rfl, rfl, h1s, at2 _ _, _, _, rfl, rfl, line5 (by simp), ?_⟩
      refine fin _ _ H6 (Same.trans sA (Same.trans s5 s6)) rfl ?_
      show (((1 : Nat) : Int) + 2) * 4096 + x * 512 + n = 12288 + x * 512 + n
      omega
    | high x n =>
      have hS : SqT K H a [.str (nm FV 2), .int x, .int n] := hS
      have hx : 0 ≤ x ∧ x ≤ 7 := hok.1
      have hn := hok.2
      refine ⟨_, rfl, _, _, _, _, rfl, rfl, hS, at0, _, rfl, _, rfl, a, _, rfl, hS, fun w => absurd w (not_whole_tail _ _), fun _ b hb => ⟨_, _, rfl, ?_⟩⟩
      have s1 : Same H (upd H b (.tup (cutV (.str (nm FV 2) :: [.int x, .int n]) (some 1) none))) := Same.add hb
      have h1 : (upd H b (.tup (cutV (.str (nm FV 2) :: [.int x, .int n]) (some 1) none))) b = some (.tup ([.int x, .int n])) := upd_same.trans (congrArg (fun l => some (HO.tup l)) (cut_tail _ _))
      generalize upd H b (.tup (cutV (.str (nm FV 2) :: [.int x, .int n]) (some 1) none)) = H1 at s1 h1 ⊢
      refine ⟨_, rfl, rfl, fun l1 H2 _ s2 h2 => ⟨_, _, rfl, .inl (SqL.of h2), rfl, flat_strs SG, _, rfl, ?_⟩⟩
      show if inV (.str (nm FV 2)) (SG.map V.str) = true then _ else _
      rw [inV_strs, (fv_at 2 (by decide)).2.1]
      refine iteF ⟨_, rfl, rfl, fun l2 H3 _ s3 h3 => ⟨_, _, rfl, .inl (SqL.of h3), rfl, flat_strs SM, _, rfl, ?_⟩⟩
      show if inV (.str (nm FV 2)) (SM.map V.str) = true then _ else _
      rw [inV_strs, (fv_at 2 (by decide)).2.2.1]
      refine iteF ⟨_, rfl, line5 (by simp), fun p3 hp3 => ?_⟩
      have s4 : Same H3 (upd H3 p3 (.tup [.str "jump", .str "call"])) := Same.add hp3
      have h4 : (upd H3 p3 (.tup [.str "jump", .str "call"])) p3 = some (.tup [.str "jump", .str "call"]) := upd_same
      generalize upd H3 p3 (.tup [.str "jump", .str "call"]) = H4 at s4 h4 ⊢
      refine ⟨_, _, rfl, .inr (SqT.of h4), rfl, rfl, _, rfl, ?_⟩
      show if inV (.str (nm FV 2)) [.str "jump", .str "call"] = true then _ else _
      rw [(fv_at 2 (by decide)).2.2.2.1]
      have h1' := SqT.of (K := K) (s4 _ _ (s3 _ _ (s2 _ _ h1)))
      have sA := Same.trans s1 (Same.trans s2 (Same.trans s3 s4))
      refine iteF ⟨line5 (by simp), fun l5 hl5 => ?_⟩
      have s5 : Same H4 (upd H4 l5 (.lst [.str "plus", .str "set", .str "high", .str "load", .str "store"])) := Same.add hl5
      have h5 : (upd H4 l5 (.lst [.str "plus", .str "set", .str "high", .str "load", .str "store"])) l5 = some (.lst [.str "plus", .str "set", .str "high", .str "load", .str "store"]) := upd_same
      generalize upd H4 l5 (.lst [.str "plus", .str "set", .str "high", .str "load", .str "store"]) = H5 at s5 h5 ⊢
      have h5 : H5 l5 = some (.lst (FV.map V.str)) := h5
      have h1'' := Same.tup s5 h1'
      refine ⟨.inl ⟨rfl, _, SqL.of h5⟩, _, rfl, _, _, _, _, _, rfl, rfl, SqL.of h5, rfl, flat_strs _, (ixs (fv_at 2 (by decide)).1).1, (ixs (fv_at 2 (by decide)).1).2.1, (ixs (fv_at 2 (by decide)).1).2.2, ?_⟩
      refine ⟨_, _, rfl, rfl, _, _, rfl, rfl, .inl ⟨by decide, by decide⟩, _, rfl, _, _, _, _, rfl, rfl, h1'', at0, _, _, rfl, rfl, .inl ⟨by omega, by omega⟩, _, _, rfl, rfl, ?_⟩
      refine ⟨_, rfl, line5 (by simp), fun p6 hp6 => ?_⟩
      have s6 : Same H5 (upd H5 p6 (.tup [.str "set", .str "high"])) := Same.add hp6
      have h6 : (upd H5 p6 (.tup [.str "set", .str "high"])) p6 = some (.tup [.str "set", .str "high"]) := upd_same
      generalize upd H5 p6 (.tup [.str "set", .str "high"]) = H6 at s6 h6 ⊢
      refine ⟨_, _, rfl, .inr (SqT.of h6), rfl, rfl, _, rfl, ?_⟩
      have h1s := Same.tup s6 h1''
      show if inV (.str (nm FV 2)) [.str "set", .str "high"] = true then _ else _
      rw [(fv_at 2 (by decide)).2.2.2.2]
      refine iteT ⟨_, rfl, _, rfl, _, _, _, _, rfl, rfl, h1s, at2 _ _, _, _, rfl, rfl, line5 (by simp), ?_⟩
      refine fin _ _ H6 (Same.trans sA (Same.trans s5 s6)) rfl ?_
      show (((2 : Nat) : Int) + 2) * 4096 + x * 512 + n = 16384 + x * 512 + n
      omega
    | load x y n =>
      have hS : SqT K H a [.str (nm FV 3), .int x, .int y, .int n] := hS
      have hx : 0 ≤ x ∧ x ≤ 7 := hok.1
      have hy : 0 ≤ y ∧ y ≤ 7 := hok.2.1
      have hn := hok.2.2
      refine ⟨_, rfl, _, _, _, _, rfl, rfl, hS, at0, _, rfl, _, rfl, a, _, rfl, hS, fun w => absurd w (not_whole_tail _ _), fun _ b hb => ⟨_, _, rfl, ?_⟩⟩
      have s1 : Same H (upd H b (.tup (cutV (.str (nm FV 3) :: [.int x, .int y, .int n]) (some 1) none))) := Same.add hb
      have h1 : (upd H b (.tup (cutV (.str (nm FV 3) :: [.int x, .int y, .int n]) (some 1) none))) b = some (.tup ([.int x, .int y, .int n])) := upd_same.trans (congrArg (fun l => some (HO.tup l)) (cut_tail _ _))
      generalize upd H b (.tup (cutV (.str (nm FV 3) :: [.int x, .int y, .int n]) (some 1) none)) = H1 at s1 h1 ⊢
      refine ⟨_, rfl, rfl, fun l1 H2 _ s2 h2 => ⟨_, _, rfl, .inl (SqL.of h2), rfl, flat_strs SG, _, rfl, ?_⟩⟩
      show if inV (.str (nm FV 3)) (SG.map V.str) = true then _ else _
      rw [inV_strs, (fv_at 3 (by decide)).2.1]
      refine iteF ⟨_, rfl, rfl, fun l2 H3 _ s3 h3 => ⟨_, _, rfl, .inl (SqL.of h3), rfl, flat_strs SM, _, rfl, ?_⟩⟩
      show if inV (.str (nm FV 3)) (SM.map V.str) = true then _ else _
      rw [inV_strs, (fv_at 3 (by decide)).2.2.1]
      refine iteF ⟨_, rfl, line5 (by simp), fun p3 hp3 => ?_⟩
      have s4 : Same H3 (upd H3 p3 (.tup [.str "jump", .str "call"])) := Same.add hp3
      have h4 : (upd H3 p3 (.tup [.str "jump", .str "call"])) p3 = some (.tup [.str "jump", .str "call"]) := upd_same
      generalize upd H3 p3 (.tup [.str "jump", .str "call"]) = H4 at s4 h4 ⊢
      refine ⟨_, _, rfl, .inr (SqT.of h4), rfl, rfl, _, rfl, ?_⟩
      show if inV (.str (nm FV 3)) [.str "jump", .str "call"] = true then _ else _
      rw [(fv_at 3 (by decide)).2.2.2.1]
      have h1' := SqT.of (K := K) (s4 _ _ (s3 _ _ (s2 _ _ h1)))
      have sA := Same.trans s1 (Same.trans s2 (Same.trans s3 s4))
      refine iteF ⟨line5 (by simp), fun l5 hl5 => ?_⟩
      have s5 : Same H4 (upd H4 l5 (.lst [.str "plus", .str "set", .str "high", .str "load", .str "store"])) := Same.add hl5
      have h5 : (upd H4 l5 (.lst [.str "plus", .str "set", .str "high", .str "load", .str "store"])) l5 = some (.lst [.str "plus", .str "set", .str "high", .str "load", .str "store"]) := upd_same
      generalize upd H4 l5 (.lst [.str "plus", .str "set", .str "high", .str "load", .str "store"]) = H5 at s5 h5 ⊢
      have h5 : H5 l5 = some (.lst (FV.map V.str)) := h5
      have h1'' := Same.tup s5 h1'
      refine ⟨.inl ⟨rfl, _, SqL.of h5⟩, _, rfl, _, _, _, _, _, rfl, rfl, SqL.of h5, rfl, flat_strs _, (ixs (fv_at 3 (by decide)).1).1, (ixs (fv_at 3 (by decide)).1).2.1, (ixs (fv_at 3 (by decide)).1).2.2, ?_⟩
      refine ⟨_, _, rfl, rfl, _, _, rfl, rfl, .inl ⟨by decide, by decide⟩, _, rfl, _, _, _, _, rfl, rfl, h1'', at0, _, _, rfl, rfl, .inl ⟨by omega, by omega⟩, _, _, rfl, rfl, ?_⟩
      refine ⟨_, rfl, line5 (by simp), fun p6 hp6 => ?_⟩
      have s6 : Same H5 (upd H5 p6 (.tup [.str "set", .str "high"])) := Same.add hp6
      have h6 : (upd H5 p6 (.tup [.str "set", .str "high"])) p6 = some (.tup [.str "set", .str "high"]) := upd_same
      generalize upd H5 p6 (.tup [.str "set", .str "high"]) = H6 at s6 h6 ⊢
      refine ⟨_, _, rfl, .inr (SqT.of h6), rfl, rfl, _, rfl, ?_⟩
      have h1s := Same.tup s6 h1''
      show if inV (.str (nm FV 3)) [.str "set", .str "high"] = true then _ else _
      rw [(fv_at 3 (by decide)).2.2.2.2]
      refine iteF ⟨_, rfl, _, rfl, _, _, _, _, rfl, rfl, h1s, (atT _ _ _).2.1, _, _, rfl, rfl, .inl ⟨by omega, by omega⟩, _, _, rfl, rfl, _, rfl, _, _, _, _, rfl, rfl, h1s, (atT _ _ _).1, _, _, rfl, rfl, (show (64 : Int) ≠ 0 by decide), _, _, rfl, rfl, line5 (by simp), ?_⟩
      refine fin _ _ H6 (Same.trans sA (Same.trans s5 s6)) rfl ?_
      show (((3 : Nat) : Int) + 2) * 4096 + x * 512 + y * 64 + n.fmod 64 = 20480 + x * 512 + y * 64 + n
      rw [Int.fmod_eq_emod_of_nonneg _ (by decide)]
      omega
    | store x y n =>
      have hS : SqT K H a [.str (nm FV 4), .int x, .int y, .int n] := hS
      have hx : 0 ≤ x ∧ x ≤ 7 := hok.1
      have hy : 0 ≤ y ∧ y ≤ 7 := hok.2.1
      have hn := hok.2.2
      refine ⟨_, rfl, _, _, _, _, rfl, rfl, hS, at0, _, rfl, _, rfl, a, _, rfl, hS, fun w => absurd w (not_whole_tail _ _), fun _ b hb => ⟨_, _, rfl, ?_⟩⟩
      have s1 : Same H (upd H b (.tup (cutV (.str (nm FV 4) :: [.int x, .int y, .int n]) (some 1) none))) := Same.add hb
      have h1 : (upd H b (.tup (cutV (.str (nm FV 4) :: [.int x, .int y, .int n]) (some 1) none))) b = some (.tup ([.int x, .int y, .int n])) := upd_same.trans (congrArg (fun l => some (HO.tup l)) (cut_tail _ _))
      generalize upd H b (.tup (cutV (.str (nm FV 4) :: [.int x, .int y, .int n]) (some 1) none)) = H1 at s1 h1 ⊢
      refine ⟨_, rfl, rfl, fun l1 H2 _ s2 h2 => ⟨_, _, rfl, .inl (SqL.of h2), rfl, flat_strs SG, _, rfl, ?_⟩⟩
      show if inV (.str (nm FV 4)) (SG.map V.str) = true then _ else _
      rw [inV_strs, (fv_at 4 (by decide)).2.1]
      refine iteF ⟨_, rfl, rfl, fun l2 H3 _ s3 h3 => ⟨_, _, rfl, .inl (SqL.of h3), rfl, flat_strs SM, _, rfl, ?_⟩⟩
      show if inV (.str (nm FV 4)) (SM.map V.str) = true then _ else _
      rw [inV_strs, (fv_at 4 (by decide)).2.2.1]
      refine iteF ⟨_, rfl, line5 (by simp), fun p3 hp3 => ?_⟩
      have s4 : Same H3 (upd H3 p3 (.tup [.str "jump", .str "call"])) := Same.add hp3
      have h4 : (upd H3 p3 (.tup [.str "jump", .str "call"])) p3 = some (.tup [.str "jump", .str "call"]) := upd_same
      generalize upd H3 p3 (.tup [.str "jump", .str "call"]) = H4 at s4 h4 ⊢
      refine ⟨_, _, rfl, .inr (SqT.of h4), rfl, rfl, _, rfl, ?_⟩
      show if inV (.str (nm FV 4)) [.str "jump", .str "call"] = true then _ else _
      rw [(fv_at 4 (by decide)).2.2.2.1]
      have h1' := SqT.of (K := K) (s4 _ _ (s3 _ _ (s2 _ _ h1)))
      have sA := Same.trans s1 (Same.trans s2 (Same.trans s3 s4))
      refine iteF ⟨line5 (by simp), fun l5 hl5 => ?_⟩
      have s5 : Same H4 (upd H4 l5 (.lst [.str "plus", .str "set", .str "high", .str "load", .str "store"])) := Same.add hl5
      have h5 : (upd H4 l5 (.lst [.str "plus", .str "set", .str "high", .str "load", .str "store"])) l5 = some (.lst [.str "plus", .str "set", .str "high", .str "load", .str "store"]) := upd_same
      generalize upd H4 l5 (.lst [.str "plus", .str "set", .str "high", .str "load", .str "store"]) = H5 at s5 h5 ⊢
      have h5 : H5 l5 = some (.lst (FV.map V.str)) := h5
      have h1'' := Same.tup s5 h1'
      refine ⟨.inl ⟨rfl, _, SqL.of h5⟩, _, rfl, _, _, _, _, _, rfl, rfl, SqL.of h5, rfl, flat_strs _, (ixs (fv_at 4 (by decide)).1).1, (ixs (fv_at 4 (by decide)).1).2.1, (ixs (fv_at 4 (by decide)).1).2.2, ?_⟩
      refine ⟨_, _, rfl, rfl, _, _, rfl, rfl, .inl ⟨by decide, by decide⟩, _, rfl, _, _, _, _, rfl, rfl, h1'', at0, _, _, rfl, rfl, .inl ⟨by omega, by omega⟩, _, _, rfl, rfl, ?_⟩
      refine ⟨_, rfl, line5 (by simp), fun p6 hp6 => ?_⟩
      have s6 : Same H5 (upd H5 p6 (.tup [.str "set", .str "high"])) := Same.add hp6
      have h6 : (upd H5 p6 (.tup [.str "set", .str "high"])) p6 = some (.tup [.str "set", .str "high"]) := upd_same
      generalize upd H5 p6 (.tup [.str "set", .str "high"]) = H6 at s6 h6 ⊢
      refine ⟨_, _, rfl, .inr (SqT.of h6), rfl, rfl, _, rfl, ?_⟩
      have h1s := Same.tup s6 h1''
      show if inV (.str (nm FV 4)) [.str "set", .str "high"] = true then _ else _
      rw [(fv_at 4 (by decide)).2.2.2.2]
      refine iteF ⟨_, rfl, _, rfl, _, _, _, _, rfl, rfl, h1s, (atT _ _ _).2.1, _, _, rfl, rfl, .inl ⟨by omega, by omega⟩, _, _, rfl, rfl, _, rfl, _, _, _, _, rfl, rfl, h1s, (atT _ _ _).1, _, _, rfl, rfl, (show (64 : Int) ≠ 0 by decide), _, _, rfl, rfl, line5 (by simp), ?_⟩
      refine fin _ _ H6 (Same.trans sA (Same.trans s5 s6)) rfl ?_
      show (((4 : Nat) : Int) + 2) * 4096 + x * 512 + y * 64 + n.fmod 64 = 24576 + x * 512 + y * 64 + n
      rw [Int.fmod_eq_emod_of_nonneg _ (by decide)]
      omega
    | jump k g far =>
      obtain ⟨hk, hg0, hg1⟩ := hok
      have hS : SqT K H a [.str "jump", .str (nm TM k), .int g, .bl far] := hS
      refine ⟨_, rfl, _, _, _, _, rfl, rfl, hS, at0, _, rfl, _, rfl, a, _, rfl, hS, fun w => absurd w (not_whole_tail _ _), fun _ b hb => ⟨_, _, rfl, ?_⟩⟩
      have s1 : Same H (upd H b (.tup (cutV (.str "jump" :: [.str (nm TM k), .int g, .bl far]) (some 1) none))) := Same.add hb
      have h1 : (upd H b (.tup (cutV (.str "jump" :: [.str (nm TM k), .int g, .bl far]) (some 1) none))) b = some (.tup ([.str (nm TM k), .int g, .bl far])) := upd_same.trans (congrArg (fun l => some (HO.tup l)) (cut_tail _ _))
      generalize upd H b (.tup (cutV (.str "jump" :: [.str (nm TM k), .int g, .bl far]) (some 1) none)) = H1 at s1 h1 ⊢
      refine ⟨_, rfl, rfl, fun l1 H2 _ s2 h2 => ⟨_, _, rfl, .inl (SqL.of h2), rfl, flat_strs SG, _, rfl, ?_⟩⟩
      show if inV (.str ("jump")) (SG.map V.str) = true then _ else _
      rw [inV_strs, jc_in.1]
      refine iteF ⟨_, rfl, rfl, fun l2 H3 _ s3 h3 => ⟨_, _, rfl, .inl (SqL.of h3), rfl, flat_strs SM, _, rfl, ?_⟩⟩
      show if inV (.str ("jump")) (SM.map V.str) = true then _ else _
      rw [inV_strs, jc_in.2.1]
      refine iteF ⟨_, rfl, line5 (by simp), fun p3 hp3 => ?_⟩
      have s4 : Same H3 (upd H3 p3 (.tup [.str "jump", .str "call"])) := Same.add hp3
      have h4 : (upd H3 p3 (.tup [.str "jump", .str "call"])) p3 = some (.tup [.str "jump", .str "call"]) := upd_same
      generalize upd H3 p3 (.tup [.str "jump", .str "call"]) = H4 at s4 h4 ⊢
      refine ⟨_, _, rfl, .inr (SqT.of h4), rfl, rfl, _, rfl, ?_⟩
      show if inV (.str ("jump")) [.str "jump", .str "call"] = true then _ else _
      rw [jc_in.2.2.2.2.1]
      have h1' := SqT.of (K := K) (s4 _ _ (s3 _ _ (s2 _ _ h1)))
      have sA := Same.trans s1 (Same.trans s2 (Same.trans s3 s4))
      refine iteT ⟨_, rfl, rfl, _, rfl, iteT ⟨rfl, fun l3 H5 _ s5 h5 => ⟨.inl ⟨rfl, _, SqL.of h5⟩, _, rfl, _, _, _, _, rfl, rfl, Same.tup s5 h1', (atT _ _ _).2.2, _, _, _, _, _, rfl, rfl, SqL.of h5, rfl, flat_strs _, (ixs (tm_at k hk)).1, (ixs (tm_at k hk)).2.1, (ixs (tm_at k hk)).2.2, ?_⟩⟩⟩
      refine ⟨_, _, rfl, rfl, .inl ⟨by omega, by omega⟩, line5 (by simp), fun l6 hl6 => ?_⟩
      have s6 : Same H5 (upd H5 l6 (.lst [.int 28672, .int 32768, .int 36864, .int 40960])) := Same.add hl6
      have h6 : (upd H5 l6 (.lst [.int 28672, .int 32768, .int 36864, .int 40960])) l6 = some (.lst [.int 28672, .int 32768, .int 36864, .int 40960]) := upd_same
      generalize upd H5 l6 (.lst [.int 28672, .int 32768, .int 36864, .int 40960]) = H6 at s6 h6 ⊢
      have sB := Same.trans sA (Same.trans s5 s6)
      have hS6 := Same.tup sB hS
      have m1 : atI [V.str "jump", .str (nm TM k), .int g, .bl far] (-1) = some (.bl far) := rfl
      have m2 : atI [V.str "jump", .str (nm TM k), .int g, .bl far] (-2) = some (.int g) := rfl
      refine ⟨_, rfl, rfl, .inr ⟨_, rfl, _, _, rfl, rfl, .inl ⟨by decide, by decide⟩, _, rfl, _, rfl, _, _, _, _, rfl, rfl, hS6, m1, .inr ⟨_, rfl, _, _, rfl, rfl, ?_⟩⟩⟩
      cases far with
      | true =>
        have af : atI [V.int 28672, .int 32768, .int 36864, .int 40960] (2 * b2i (decide (V.str "jump" = V.str "call")) + b2i true) = some (.int 32768) := by decide +kernel
        refine ⟨_, _, _, _, rfl, rfl, SqL.of h6, af, _, rfl, _, rfl, _, _, _, _, rfl, rfl, hS6, m1, _, rfl, iteT ⟨_, rfl, _, rfl, _, _, rfl, rfl, _, rfl, _, rfl, _, _, _, _, rfl, rfl, hS6, m2, line5 (by simp), ?_⟩⟩
        exact fun q' hq => q q' _ (Same.trans sB (Same.add hq)) (by rw [upd_same]; rfl)
      | false =>
        have af : atI [V.int 28672, .int 32768, .int 36864, .int 40960] (2 * b2i (decide (V.str "jump" = V.str "call")) + b2i false) = some (.int 28672) := by decide +kernel
        refine ⟨_, _, _, _, rfl, rfl, SqL.of h6, af, _, rfl, _, rfl, _, _, _, _, rfl, rfl, hS6, m1, _, rfl, iteF ⟨_, rfl, _, rfl, _, _, rfl, rfl, _, rfl, _, rfl, _, _, _, _, rfl, rfl, hS6, m2, _, rfl, _, _, rfl, rfl, _, _, rfl, rfl, _, _, rfl, rfl, (show (32 : Int) ≠ 0 by decide), _, _, rfl, rfl, line5 (by simp), ?_⟩⟩
        refine fin _ _ H6 sB rfl ?_
        show 28672 + (k : Int) * 512 + (g - p - 1).fmod 32 = 28672 + k * 512 + (g - p - 1) % 32
        rw [Int.fmod_eq_emod_of_nonneg _ (by decide)]
    | call g far =>
      have hS : SqT K H a [.str "call", .int g, .bl far] := hS
      refine ⟨_, rfl, _, _, _, _, rfl, rfl, hS, at0, _, rfl, _, rfl, a, _, rfl, hS, fun w => absurd w (not_whole_tail _ _), fun _ b hb => ⟨_, _, rfl, ?_⟩⟩
      have s1 : Same H (upd H b (.tup (cutV (.str "call" :: [.int g, .bl far]) (some 1) none))) := Same.add hb
      have h1 : (upd H b (.tup (cutV (.str "call" :: [.int g, .bl far]) (some 1) none))) b = some (.tup ([.int g, .bl far])) := upd_same.trans (congrArg (fun l => some (HO.tup l)) (cut_tail _ _))
      generalize upd H b (.tup (cutV (.str "call" :: [.int g, .bl far]) (some 1) none)) = H1 at s1 h1 ⊢
      refine ⟨_, rfl, rfl, fun l1 H2 _ s2 h2 => ⟨_, _, rfl, .inl (SqL.of h2), rfl, flat_strs SG, _, rfl, ?_⟩⟩
      show if inV (.str ("call")) (SG.map V.str) = true then _ else _
      rw [inV_strs, jc_in.2.2.1]
      refine iteF ⟨_, rfl, rfl, fun l2 H3 _ s3 h3 => ⟨_, _, rfl, .inl (SqL.of h3), rfl, flat_strs SM, _, rfl, ?_⟩⟩
      show if inV (.str ("call")) (SM.map V.str) = true then _ else _
      rw [inV_strs, jc_in.2.2.2.1]
      refine iteF ⟨_, rfl, line5 (by simp), fun p3 hp3 => ?_⟩
      have s4 : Same H3 (upd H3 p3 (.tup [.str "jump", .str "call"])) := Same.add hp3
      have h4 : (upd H3 p3 (.tup [.str "jump", .str "call"])) p3 = some (.tup [.str "jump", .str "call"]) := upd_same
      generalize upd H3 p3 (.tup [.str "jump", .str "call"]) = H4 at s4 h4 ⊢
      refine ⟨_, _, rfl, .inr (SqT.of h4), rfl, rfl, _, rfl, ?_⟩
      show if inV (.str ("call")) [.str "jump", .str "call"] = true then _ else _
      rw [jc_in.2.2.2.2.2]
      have sA := Same.trans s1 (Same.trans s2 (Same.trans s3 s4))
      have dn : decide (V.str "call" = V.str "jump") = false := by decide +kernel
      refine iteT ⟨_, rfl, rfl, _, rfl, ?_⟩
      rw [dn]
      refine iteF ⟨line5 (by simp), fun l6 hl6 => ?_⟩
      have s6 : Same H4 (upd H4 l6 (.lst [.int 28672, .int 32768, .int 36864, .int 40960])) := Same.add hl6
      have h6 : (upd H4 l6 (.lst [.int 28672, .int 32768, .int 36864, .int 40960])) l6 = some (.lst [.int 28672, .int 32768, .int 36864, .int 40960]) := upd_same
      generalize upd H4 l6 (.lst [.int 28672, .int 32768, .int 36864, .int 40960]) = H6 at s6 h6 ⊢
      have sB := Same.trans sA s6
      have hS6 := Same.tup sB hS
      have m1 : atI [V.str "call", .int g, .bl far] (-1) = some (.bl far) := rfl
      have m2 : atI [V.str "call", .int g, .bl far] (-2) = some (.int g) := rfl
      refine ⟨_, rfl, rfl, .inr ⟨_, rfl, _, _, rfl, rfl, .inl ⟨by decide, by decide⟩, _, rfl, _, rfl, _, _, _, _, rfl, rfl, hS6, m1, .inr ⟨_, rfl, _, _, rfl, rfl, ?_⟩⟩⟩
      cases far with
      | true =>
        have af : atI [V.int 28672, .int 32768, .int 36864, .int 40960] (2 * b2i (decide (V.str "call" = V.str "call")) + b2i true) = some (.int 40960) := by decide +kernel
        refine ⟨_, _, _, _, rfl, rfl, SqL.of h6, af, _, rfl, _, rfl, _, _, _, _, rfl, rfl, hS6, m1, _, rfl, iteT ⟨_, rfl, _, rfl, _, _, rfl, rfl, _, rfl, _, rfl, _, _, _, _, rfl, rfl, hS6, m2, line5 (by simp), ?_⟩⟩
        exact fun q' hq => q q' _ (Same.trans sB (Same.add hq)) (by rw [upd_same]; rfl)
      | false =>
        have af : atI [V.int 28672, .int 32768, .int 36864, .int 40960] (2 * b2i (decide (V.str "call" = V.str "call")) + b2i false) = some (.int 36864) := by decide +kernel
        refine ⟨_, _, _, _, rfl, rfl, SqL.of h6, af, _, rfl, _, rfl, _, _, _, _, rfl, rfl, hS6, m1, _, rfl, iteF ⟨_, rfl, _, rfl, _, _, rfl, rfl, _, rfl, _, rfl, _, _, _, _, rfl, rfl, hS6, m2, _, rfl, _, _, rfl, rfl, _, _, rfl, rfl, _, _, rfl, rfl, (show (32 : Int) ≠ 0 by decide), _, _, rfl, rfl, line5 (by simp), ?_⟩⟩
        refine fin _ _ H6 sB rfl ?_
        show 36864 + 0 + (g - p - 1).fmod 32 = 36864 + (g - p - 1) % 32
        rw [Int.fmod_eq_emod_of_nonneg _ (by decide)]
        omega
end
end Bm
set_option maxHeartbeats 1600000
namespace Bm
open PySem PySem.Spec PyProof.Rows L2
theorem Dp.same {K : PySem.W.Frag} {H H' : Hp} (e : Same H H') : ∀ {v : V} {d : PyData}, Dp K H v d → Dp K H' v d := by
  intro v d h
  refine Dp.rec (motive_1 := fun v d _ => Dp K H' v d) (motive_2 := fun vs ds _ => DpAll K H' vs ds) .non .bl .int .str (fun h _ ih => .lst (e.seq h) ih) (fun h _ ih => .tup (Same.tup e h) ih) .nil (fun _ _ h1 h2 => .cons h1 h2) h
theorem DpAll.at {K : PySem.W.Frag} {H : Hp} : ∀ {xs : List V} {ds : List PyData} {i : Nat} {d : PyData}, DpAll K H xs ds → ds[i]? = some d → ∃ v, xs[i]? = some v ∧ Dp K H v d
  | _, _, i, d, .nil, h => by simp at h
  | _, _, 0, d, .cons h1 _, h => ⟨_, rfl, by have e := Option.some.inj h; rw [← e]; exact h1⟩
  | _, _, i + 1, d, .cons _ h2, h => by
    obtain ⟨v, e1, e2⟩ := DpAll.at (i := i) (d := d) h2 h
    exact ⟨v, e1, e2⟩
theorem DpAll.len {K : PySem.W.Frag} {H : Hp} : ∀ {xs : List V} {ds : List PyData}, DpAll K H xs ds → xs.length = ds.length
  | _, _, .nil => rfl
  | _, _, .cons _ h => congrArg Nat.succ (DpAll.len h)
theorem kit_seq {K : PySem.W.Frag} {t : String} {b1 b2 : Bool} (h1 : kitB t "tuple" = some b1) (h2 : kitB t "list" = some b2) : PySem.W.kitAny K (.type t) [.type "tuple", .type "list"] = some (b1 || b2) :=
  kitAny_cons (kit_ty h1) (fun e => kitAny_cons (kit_ty h2) (fun e2 => by rw [e, e2]; rfl) (fun e2 => by rw [e, e2]; rfl)) (fun e => by rw [e]; rfl)
theorem two_cls : Paired ClsV [.ty "tuple", .ty "list"] [.type "tuple", .type "list"] := .cons (.ty _) (.cons (.ty _) .nil)
theorem depth_mem : ∀ {ds : List PyData} {d : PyData}, d ∈ ds → d.depth ≤ PyData.depthAll ds
  | x :: ds, d, h => by
    simp only [PyData.depthAll]
    rcases List.mem_cons.mp h with e | h
    · rw [e]; exact Nat.le_max_left _ _
    · exact Nat.le_trans (depth_mem h) (Nat.le_max_right _ _)
mutual
/-- no row of it is longer than it may be -/
def smallD : PyData → Prop
  | .list xs => xs.length ≤ 100000 ∧ smallA xs
  | .tuple xs => xs.length ≤ 100000 ∧ smallA xs
  | _ => True
def smallA : List PyData → Prop
  | [] => True
  | x :: xs => smallD x ∧ smallA xs
end
theorem smallA_mem : ∀ {ds : List PyData} {d : PyData}, smallA ds → d ∈ ds → smallD d
  | x :: ds, d, h, hm => by
    simp only [smallA] at h
    rcases List.mem_cons.mp hm with e | hm
    · rw [e]; exact h.1
    · exact smallA_mem h.2 hm
section
variable {P : Program} {w : World} {K : PySem.W.Frag} {mg : Str → Option Value} {base : Heap} {f : Addr} {fd : FuncData} {dvs : List V}
/-! _law_same, of the same data twice -/
def spSame (K : PySem.W.Frag) (n : Nat) : Sp := fun vs H Q _ => ∃ (x y : V) (d : PyData), vs = [x, y] ∧ Dp K H x d ∧ Dp K H y d ∧ d.depth < n ∧ smallD d ∧ ∀ H', Same H H' → Q (.bl true) H'
abbrev N__law_same : List Str := ["_law_found", "_law_due", "_law_alike", "_law_k"]
theorem sc__law_same : FnScope ["_law_found", "_law_due", "_law_alike", "_law_k"] ["_law_found", "_law_due"] (defScope s__law_same) := ⟨rfl, rfl, rfl, by decide +kernel, rfl, by decide +kernel, by decide +kernel⟩
theorem ok_same {n : Nat} (F : FunD K "_law_same" "_law_same" (defArgs s__law_same) (defBody s__law_same) (defScope s__law_same) dvs [] f fd) (g_isinstance : mg "isinstance" = none) (g_tuple : mg "tuple" = none) (g_list : mg "list" = none) (g_bool : mg "bool" = none) (g_int : mg "int" = none) (g_len : mg "len" = none) (g_range : mg "range" = none)
    (k__law_same : Kn P w K mg base CX0 n "_law_same" ["_law_found", "_law_due"] [] (spSame K n)) : FnOk P w K mg base CX0 (n + 1) f fd ["_law_found", "_law_due"] (spSame K (n + 1)) := by
  refine F.ok sc__law_same (fun vs H Q E h => ?_) (fun cdv A outer s H vs Q E hr h => ?_)
  · obtain ⟨x, y, d, rfl, _⟩ := h
    rfl
  · obtain ⟨x, y, d, rfl, hx, hy, hd, hsm, q⟩ := h
    refine ⟨_, PSs.nox (pss_cons (ps_if (pt_val (pe_callB call_isiT rfl g_isinstance (by decide +kernel) (pa_cons (pv 1) (pa_cons (pe_tup (pa_cons (pe_bltn (v := .ty "tuple") rfl g_tuple (by decide +kernel) rfl) (pa_cons (pe_bltn (v := .ty "list") rfl g_list (by decide +kernel) rfl) pa_nil))) pa_nil)))) (pss_cons (ps_if (PW.pt (pw_or (pt_not (pt_val (pe_callB call_isiT rfl g_isinstance (by decide +kernel) (pa_cons (pv 0) (pa_cons (pe_tup (pa_cons (pe_bltn (v := .ty "tuple") rfl g_tuple (by decide +kernel) rfl) (pa_cons (pe_bltn (v := .ty "list") rfl g_list (by decide +kernel) rfl) pa_nil))) pa_nil))))) (pw_or1 (pt_cmpR op_ne (pe_callB call_isi rfl g_isinstance (by decide +kernel) (pa_cons (pv 0) (pa_cons (pe_bltn (v := .ty "list") rfl g_list (by decide +kernel) rfl) pa_nil))) (pe_callB call_isi rfl g_isinstance (by decide +kernel) (pa_cons (pv 1) (pa_cons (pe_bltn (v := .ty "list") rfl g_list (by decide +kernel) rfl) pa_nil))) (nomark _))))) (pss_one (ps_ret pe_bl)) pss_nil)
      (pss_cons (ps_if (pt_cmpR op_ne (pe_callB call_len rfl g_len boot_len (pa_cons (pv 0) pa_nil)) (pe_callB call_len rfl g_len boot_len (pa_cons (pv 1) pa_nil)) (nomark _)) (pss_one (ps_ret pe_bl)) pss_nil)
      (pss_one (ps_ret (pe_cmpR (op_eqD hr.units) (pe_lc (own := [("_law_k", 3)]) (g := gName 3) rfl sc__law_same.nd (pi_range1 rfl g_range (pa_cons (pe_callB call_len rfl g_len boot_len (pa_cons (pv 1) pa_nil)) pa_nil)) (blkOk_by (own := [("_law_k", 3)]) (N := N__law_same) (sc := defScope s__law_same) (by decide +kernel)) (fun _ _ _ _ _ => (pg_name (i := 3) sc__law_same.nd rfl (Or.inl rfl))) (fun _ _ _ _ _ => (pts_one (pt_not (pt_val (pk k__law_same hr (by omega) rfl pass0 (pa_cons (pe_ix (show IxR _ (rIx K) from ix_seq) (pv 0) (pv 3) (fun _ _ => rfl)) (pa_cons (pe_ix (show IxR _ (rIx K) from ix_seq) (pv 1) (pv 3) (fun _ _ => rfl)) pa_nil))))))) (fun _ _ _ _ _ => (pv 3))) (pe_lst pa_nil) (nomark _)))))) pss_nil)
      (pss_cons (ps_set (i := 2) sc__law_same.nd rfl (Or.inl rfl) (pe_and (pe_cmpR op_eq (pe_callB call_isi rfl g_isinstance (by decide +kernel) (pa_cons (pv 0) (pa_cons (pe_bltn (v := .ty "bool") rfl g_bool (by decide +kernel) rfl) pa_nil))) (pe_callB call_isi rfl g_isinstance (by decide +kernel) (pa_cons (pv 1) (pa_cons (pe_bltn (v := .ty "bool") rfl g_bool (by decide +kernel) rfl) pa_nil))) (nomark _)) (pe_one (pe_cmpR op_eq (pe_callB call_isi rfl g_isinstance (by decide +kernel) (pa_cons (pv 0) (pa_cons (pe_bltn (v := .ty "int") rfl g_int (by decide +kernel) rfl) pa_nil))) (pe_callB call_isi rfl g_isinstance (by decide +kernel) (pa_cons (pv 1) (pa_cons (pe_bltn (v := .ty "int") rfl g_int (by decide +kernel) rfl) pa_nil))) (nomark _)))))
      (pss_one (ps_ret (pe_and (pv 2) (pe_one (pe_cmpR op_eq (pv 0) (pv 1) (nomark _)))))))), ?_⟩
    refine ⟨_, rfl, line5 (by simp), fun tp htp => ?_⟩
    have s1 : Same H (upd H tp (.tup [.ty "tuple", .ty "list"])) := Same.add htp
    have h1 : (upd H tp (.tup [.ty "tuple", .ty "list"])) tp = some (.tup [.ty "tuple", .ty "list"]) := upd_same
    generalize upd H tp (.tup [.ty "tuple", .ty "list"]) = H1 at s1 h1 ⊢
    have qq : ∀ b : Bool, b = true → Q (.bl b) H1 := fun b e => by rw [e]; exact q H1 s1
    cases hx with
      | non =>
        cases hy
        refine ⟨_, _, _, Value.type _, _, _, rfl, h1, two_cls, Knd.ty (.non), kit_seq (b1 := false) (b2 := false) (by decide +kernel) (by decide +kernel), _, rfl, iteF ?_⟩
        refine ⟨_, rfl, _, _, _, _, _, rfl, .ty _, Knd.ty (.non), kit_ty (r := false) (by decide +kernel), _, rfl, _, _, _, _, _, rfl, .ty _, Knd.ty (.non), kit_ty (r := false) (by decide +kernel), rfl, _, rfl, iteT ?_⟩
        refine ⟨_, rfl, _, _, _, _, _, rfl, .ty _, Knd.ty (.non), kit_ty (r := false) (by decide +kernel), _, rfl, _, _, _, _, _, rfl, .ty _, Knd.ty (.non), kit_ty (r := false) (by decide +kernel), rfl, ?_⟩
        exact ⟨_, rfl, _, rfl, iteT ⟨_, rfl, _, rfl, rfl, qq _ (decide_eq_true rfl)⟩⟩
      | bl b =>
        cases hy
        refine ⟨_, _, _, Value.type _, _, _, rfl, h1, two_cls, Knd.ty (.bl b), kit_seq (b1 := false) (b2 := false) (by decide +kernel) (by decide +kernel), _, rfl, iteF ?_⟩
        refine ⟨_, rfl, _, _, _, _, _, rfl, .ty _, Knd.ty (.bl b), kit_ty (r := true) (by decide +kernel), _, rfl, _, _, _, _, _, rfl, .ty _, Knd.ty (.bl b), kit_ty (r := true) (by decide +kernel), rfl, _, rfl, iteT ?_⟩
        refine ⟨_, rfl, _, _, _, _, _, rfl, .ty _, Knd.ty (.bl b), kit_ty (r := true) (by decide +kernel), _, rfl, _, _, _, _, _, rfl, .ty _, Knd.ty (.bl b), kit_ty (r := true) (by decide +kernel), rfl, ?_⟩
        exact ⟨_, rfl, _, rfl, iteT ⟨_, rfl, _, rfl, rfl, qq _ (decide_eq_true rfl)⟩⟩
      | int i =>
        cases hy
        refine ⟨_, _, _, Value.type _, _, _, rfl, h1, two_cls, Knd.ty (.int i), kit_seq (b1 := false) (b2 := false) (by decide +kernel) (by decide +kernel), _, rfl, iteF ?_⟩
        refine ⟨_, rfl, _, _, _, _, _, rfl, .ty _, Knd.ty (.int i), kit_ty (r := false) (by decide +kernel), _, rfl, _, _, _, _, _, rfl, .ty _, Knd.ty (.int i), kit_ty (r := false) (by decide +kernel), rfl, _, rfl, iteT ?_⟩
        refine ⟨_, rfl, _, _, _, _, _, rfl, .ty _, Knd.ty (.int i), kit_ty (r := true) (by decide +kernel), _, rfl, _, _, _, _, _, rfl, .ty _, Knd.ty (.int i), kit_ty (r := true) (by decide +kernel), rfl, ?_⟩
        exact ⟨_, rfl, _, rfl, iteT ⟨_, rfl, _, rfl, rfl, qq _ (decide_eq_true rfl)⟩⟩
      | str z =>
        cases hy
        refine ⟨_, _, _, Value.type _, _, _, rfl, h1, two_cls, Knd.ty (.str z), kit_seq (b1 := false) (b2 := false) (by decide +kernel) (by decide +kernel), _, rfl, iteF ?_⟩
        refine ⟨_, rfl, _, _, _, _, _, rfl, .ty _, Knd.ty (.str z), kit_ty (r := false) (by decide +kernel), _, rfl, _, _, _, _, _, rfl, .ty _, Knd.ty (.str z), kit_ty (r := false) (by decide +kernel), rfl, _, rfl, iteT ?_⟩
        refine ⟨_, rfl, _, _, _, _, _, rfl, .ty _, Knd.ty (.str z), kit_ty (r := false) (by decide +kernel), _, rfl, _, _, _, _, _, rfl, .ty _, Knd.ty (.str z), kit_ty (r := false) (by decide +kernel), rfl, ?_⟩
        exact ⟨_, rfl, _, rfl, iteT ⟨_, rfl, _, rfl, rfl, qq _ (decide_eq_true rfl)⟩⟩
      | lst hq ha =>
        rename_i xa xs ds
        cases hy with
        | lst hq2 ha2 =>
          rename_i ya ys
          have hl1 := DpAll.len ha
          have hl2 := DpAll.len ha2
          refine ⟨_, _, _, Value.type _, _, _, rfl, h1, two_cls, Knd.ty (.lst (s1.seq hq2)), kit_seq (b1 := false) (b2 := true) (by decide +kernel) (by decide +kernel), _, rfl, iteT ?_⟩
          refine ⟨_, rfl, line5 (by simp), fun tp2 htp2 => ?_⟩
          have s2 : Same H1 (upd H1 tp2 (.tup [.ty "tuple", .ty "list"])) := Same.add htp2
          have h2 : (upd H1 tp2 (.tup [.ty "tuple", .ty "list"])) tp2 = some (.tup [.ty "tuple", .ty "list"]) := upd_same
          generalize upd H1 tp2 (.tup [.ty "tuple", .ty "list"]) = H2 at s2 h2 ⊢
          have S2 : ∀ {a : Addr} {l : List V}, SqL K H a l → SqL K H2 a l := fun h => (Same.trans s1 s2).seq h
          refine ⟨_, _, _, Value.type _, _, _, rfl, h2, two_cls, Knd.ty (.lst (S2 hq)), kit_seq (b1 := false) (b2 := true) (by decide +kernel) (by decide +kernel), _, rfl, iteF ?_⟩
          refine ⟨_, rfl, _, _, _, _, _, rfl, .ty _, Knd.ty (.lst (S2 hq)), kit_ty (r := true) (by decide +kernel), _, rfl, _, _, _, _, _, rfl, .ty _, Knd.ty (.lst (S2 hq2)), kit_ty (r := true) (by decide +kernel), rfl, _, rfl, iteF ?_⟩
          refine ⟨_, rfl, _, _, rfl, .inl ⟨_, S2 hq, rfl⟩, _, rfl, _, _, rfl, .inl ⟨_, S2 hq2, rfl⟩, rfl, _, rfl, ?_⟩
          rw [show (!decide (V.int (xs.length : Int) = V.int (ys.length : Int))) = false by rw [hl1, hl2, decide_eq_true rfl]; rfl]
          refine iteF ?_
          simp only [smallD] at hsm
          have small : (ys.length : Int) < 2 ^ 62 := by
            have := hsm.1
            omega
          refine ⟨_, rfl, _, _, rfl, .inl ⟨_, S2 hq2, rfl⟩, _, rfl, by omega, small, fun D hD => ?_⟩
          have s12 := Same.trans s1 s2
          refine lc_range (lo := 0) (n := ((ys.length : Nat) : Int).toNat) (fun i H3 => Same H2 H3 ∧ H3 D = some (.lst [])) ⟨Same.add hD, upd_same⟩ ?_ ?_
          · rintro i H3 hi ⟨p1, p2⟩
            have hi : i < ys.length := by
              rw [Int.toNat_natCast] at hi
              exact hi
            have hid : i < ds.length := by omega
            obtain ⟨u, u1, u2⟩ := DpAll.at ha (List.getElem?_eq_getElem hid)
            obtain ⟨v, v1, v2⟩ := DpAll.at ha2 (List.getElem?_eq_getElem hid)
            have s03 := Same.trans s12 p1
            have S3 : ∀ {a : Addr} {l : List V}, SqL K H a l → SqL K H3 a l := fun h => s03.seq h
            have e0 : (0 : Int) + (i : Nat) = ((i : Nat) : Int) := by omega
            refine ⟨rfl, _, rfl, _, rfl, .inl ⟨_, _, _, _, rfl, rfl, S3 hq, (congrArg (atI xs) e0).trans (atI_nat u1), ?_⟩⟩
            · refine ⟨_, rfl, _, rfl, .inl ⟨_, _, _, _, rfl, rfl, S3 hq2, (congrArg (atI ys) e0).trans (atI_nat v1), ?_⟩⟩
              refine ⟨u, v, ds[i], rfl, Dp.same s03 u2, Dp.same s03 v2, ?_, smallA_mem hsm.2 (List.getElem_mem hid), fun H4 s4 => ⟨_, rfl, iteF ⟨Same.trans p1 s4, s4 _ _ p2⟩⟩⟩
              have hm := depth_mem (List.getElem_mem hid)
              simp only [PyData.depth] at hd
              omega
          · rintro H3 ⟨p1, p2⟩
            refine ⟨line5 (by simp), fun p4 hp4 => ?_⟩
            have s4 : Same H3 (upd H3 p4 (.lst [])) := Same.add hp4
            have h4 : (upd H3 p4 (.lst [])) p4 = some (.lst []) := upd_same
            generalize upd H3 p4 (.lst []) = H4 at s4 h4 ⊢
            refine ⟨.list [], .list [], .lst (SqL.of (s4 _ _ p2)) .nil, .lst (SqL.of h4) .nil, by decide +kernel, by decide +kernel, ?_⟩
            exact q _ (Same.trans s12 (Same.trans p1 s4))
      | tup hq ha =>
        rename_i xa xs ds
        cases hy with
        | tup hq2 ha2 =>
          rename_i ya ys
          have hl1 := DpAll.len ha
          have hl2 := DpAll.len ha2
          refine ⟨_, _, _, Value.type _, _, _, rfl, h1, two_cls, Knd.ty (.tup (Same.tup s1 hq2)), kit_seq (b1 := true) (b2 := false) (by decide +kernel) (by decide +kernel), _, rfl, iteT ?_⟩
          refine ⟨_, rfl, line5 (by simp), fun tp2 htp2 => ?_⟩
          have s2 : Same H1 (upd H1 tp2 (.tup [.ty "tuple", .ty "list"])) := Same.add htp2
          have h2 : (upd H1 tp2 (.tup [.ty "tuple", .ty "list"])) tp2 = some (.tup [.ty "tuple", .ty "list"]) := upd_same
          generalize upd H1 tp2 (.tup [.ty "tuple", .ty "list"]) = H2 at s2 h2 ⊢
          have S2 : ∀ {a : Addr} {l : List V}, SqT K H a l → SqT K H2 a l := fun h => Same.tup (Same.trans s1 s2) h
          refine ⟨_, _, _, Value.type _, _, _, rfl, h2, two_cls, Knd.ty (.tup (S2 hq)), kit_seq (b1 := true) (b2 := false) (by decide +kernel) (by decide +kernel), _, rfl, iteF ?_⟩
          refine ⟨_, rfl, _, _, _, _, _, rfl, .ty _, Knd.ty (.tup (S2 hq)), kit_ty (r := false) (by decide +kernel), _, rfl, _, _, _, _, _, rfl, .ty _, Knd.ty (.tup (S2 hq2)), kit_ty (r := false) (by decide +kernel), rfl, _, rfl, iteF ?_⟩
          refine ⟨_, rfl, _, _, rfl, .inr ⟨_, S2 hq, rfl⟩, _, rfl, _, _, rfl, .inr ⟨_, S2 hq2, rfl⟩, rfl, _, rfl, ?_⟩
          rw [show (!decide (V.int (xs.length : Int) = V.int (ys.length : Int))) = false by rw [hl1, hl2, decide_eq_true rfl]; rfl]
          refine iteF ?_
          simp only [smallD] at hsm
          have small : (ys.length : Int) < 2 ^ 62 := by
            have := hsm.1
            omega
          refine ⟨_, rfl, _, _, rfl, .inr ⟨_, S2 hq2, rfl⟩, _, rfl, by omega, small, fun D hD => ?_⟩
          have s12 := Same.trans s1 s2
          refine lc_range (lo := 0) (n := ((ys.length : Nat) : Int).toNat) (fun i H3 => Same H2 H3 ∧ H3 D = some (.lst [])) ⟨Same.add hD, upd_same⟩ ?_ ?_
          · rintro i H3 hi ⟨p1, p2⟩
            have hi : i < ys.length := by
              rw [Int.toNat_natCast] at hi
              exact hi
            have hid : i < ds.length := by omega
            obtain ⟨u, u1, u2⟩ := DpAll.at ha (List.getElem?_eq_getElem hid)
            obtain ⟨v, v1, v2⟩ := DpAll.at ha2 (List.getElem?_eq_getElem hid)
            have s03 := Same.trans s12 p1
            have S3 : ∀ {a : Addr} {l : List V}, SqT K H a l → SqT K H3 a l := fun h => Same.tup s03 h
            have e0 : (0 : Int) + (i : Nat) = ((i : Nat) : Int) := by omega
            refine ⟨rfl, _, rfl, _, rfl, .inr (.inl ⟨_, _, _, _, rfl, rfl, S3 hq, (congrArg (atI xs) e0).trans (atI_nat u1), ?_⟩)⟩
            · refine ⟨_, rfl, _, rfl, .inr (.inl ⟨_, _, _, _, rfl, rfl, S3 hq2, (congrArg (atI ys) e0).trans (atI_nat v1), ?_⟩)⟩
              refine ⟨u, v, ds[i], rfl, Dp.same s03 u2, Dp.same s03 v2, ?_, smallA_mem hsm.2 (List.getElem_mem hid), fun H4 s4 => ⟨_, rfl, iteF ⟨Same.trans p1 s4, s4 _ _ p2⟩⟩⟩
              have hm := depth_mem (List.getElem_mem hid)
              simp only [PyData.depth] at hd
              omega
          · rintro H3 ⟨p1, p2⟩
            refine ⟨line5 (by simp), fun p4 hp4 => ?_⟩
            have s4 : Same H3 (upd H3 p4 (.lst [])) := Same.add hp4
            have h4 : (upd H3 p4 (.lst [])) p4 = some (.lst []) := upd_same
            generalize upd H3 p4 (.lst []) = H4 at s4 h4 ⊢
            refine ⟨.list [], .list [], .lst (SqL.of (s4 _ _ p2)) .nil, .lst (SqL.of h4) .nil, by decide +kernel, by decide +kernel, ?_⟩
            exact q _ (Same.trans s12 (Same.trans p1 s4))
end
end Bm
set_option maxHeartbeats 1600000
namespace Bm
open PySem PySem.Spec PyProof.Rows L2
theorem passQ {X : Cx} : Passes (L2.CX X.prog X.w) X E0 := fun _ _ _ _ _ _ _ w => by
  rcases w with ⟨_, _, _, _, _, w⟩
  exact w.2.2.2.2.2.2.2.elim
theorem two_int {x y i : Int} (h0 : 0 ≤ i) (h1 : i < 2) : atI [V.int x, V.int y] i = some (.int (if i = 0 then x else y)) := by
  have e : i = 0 ∨ i = 1 := by omega
  rcases e with rfl | rfl
  · exact atI_nat (j := 0) rfl
  · exact atI_nat (j := 1) rfl
theorem dpAll_ints {K : PySem.W.Frag} {H : Hp} : ∀ l : List Int, DpAll K H (vInts l) (l.map PyData.int)
  | [] => .nil
  | x :: l => .cons (.int x) (dpAll_ints l)
theorem words_len (d : De) (p : Int) : (d.words p).length ≤ 2 := by
  cases d with
  | jump k g f => cases f <;> first | exact Nat.le_refl 2 | exact Nat.le_succ 1
  | call g f => cases f <;> first | exact Nat.le_refl 2 | exact Nat.le_succ 1
  | _ => exact Nat.le_succ 1
theorem depthAll_ints : ∀ l : List Int, PyData.depthAll (l.map PyData.int) = 0
  | [] => by simp [PyData.depthAll]
  | x :: l => by simp [PyData.depthAll, PyData.depth, depthAll_ints l]
theorem small_ints : ∀ l : List Int, smallA (l.map PyData.int)
  | [] => by simp [smallA]
  | x :: l => by simp [smallA, smallD, small_ints l]
/-- two tellings of the same words, in a list -/
theorem pair_data (ws : List Int) (h : ws.length ≤ 2) : (PyData.list [.tuple (ws.map PyData.int), .tuple (ws.map PyData.int)]).depth < 3 ∧ smallD (.list [.tuple (ws.map PyData.int), .tuple (ws.map PyData.int)]) := by
  constructor
  · simp [PyData.depth, PyData.depthAll, depthAll_ints]
  · simp only [smallD, smallA]
    refine ⟨by simp, ⟨?_, small_ints ws⟩, ⟨?_, small_ints ws⟩, trivial⟩ <;> (rw [List.length_map]; omega)
theorem goes_in (d : De) (h : d.ok) : ∃ z r, d.vals = .str z :: r ∧ inV (.str z) [.str "jump", .str "call"] = d.goes := by
  cases d with
  | sgl k =>
    have : ∀ k, k < 7 → inV (.str (nm SG k)) [.str "jump", .str "call"] = false := by decide +kernel
    exact ⟨_, _, rfl, this k (Nat.lt_of_lt_of_le (show k < 3 from h) (by decide))⟩
  | reg k a =>
    have : ∀ k, k < 7 → inV (.str (nm SG k)) [.str "jump", .str "call"] = false := by decide +kernel
    exact ⟨_, _, rfl, this k h.2.1⟩
  | sum k a b c =>
    have : ∀ k, k < 8 → inV (.str (nm SM k)) [.str "jump", .str "call"] = false := by decide +kernel
    exact ⟨_, _, rfl, this k h.1⟩
  | plus a b c => exact ⟨_, _, rfl, (by decide +kernel : inV (.str "plus") [.str "jump", .str "call"] = false)⟩
  | set a b => exact ⟨_, _, rfl, (by decide +kernel : inV (.str "set") [.str "jump", .str "call"] = false)⟩
  | high a b => exact ⟨_, _, rfl, (by decide +kernel : inV (.str "high") [.str "jump", .str "call"] = false)⟩
  | load a b c => exact ⟨_, _, rfl, (by decide +kernel : inV (.str "load") [.str "jump", .str "call"] = false)⟩
  | store a b c => exact ⟨_, _, rfl, (by decide +kernel : inV (.str "store") [.str "jump", .str "call"] = false)⟩
  | jump k g f => exact ⟨_, _, rfl, (by decide +kernel : inV (.str "jump") [.str "jump", .str "call"] = true)⟩
  | call g f => exact ⟨_, _, rfl, (by decide +kernel : inV (.str "call") [.str "jump", .str "call"] = true)⟩
theorem vals_name (d : De) (h : d.ok) (odd : List Str) : ∀ z r, d.vals = .str z :: r → (∃ ks, (z, ks) ∈ PT) ∨ z ∈ odd := fun z r e => .inl (deed_name (r := r) (by rw [← e]; exact deed_vals h))
section
variable {P : Program} {w : World} {K : PySem.W.Frag} {mg : Str → Option Value} {base : Heap} {f : Addr} {fd : FuncData} {dvs : List V} {odd : List Str}
def spLaw (K : PySem.W.Frag) : Sp := fun vs H Q _ => ∃ (sc : Addr) (zs : List Int), vs = [.ref sc] ∧ SqL K H sc (zs.map V.int) ∧ zs.length ≤ 63 ∧ ∀ G, Q (.bl true) G
abbrev N_law : List Str := ["_law_script", "_law_state", "_law_turn", "_law_place", "_law_deed_here", "_law_due", "_law_other"]
theorem sc_law : FnScope ["_law_script", "_law_state", "_law_turn", "_law_place", "_law_deed_here", "_law_due", "_law_other"] ["_law_script"] (defScope s_law) := ⟨rfl, rfl, rfl, by decide +kernel, rfl, by decide +kernel, by decide +kernel⟩
theorem ok_law (F : FunD K "law" "law" (defArgs s_law) (defBody s_law) (defScope s_law) dvs [] f fd) (k__law_start : Kn P w K mg base CX0 1 "_law_start" ["_law_script"] [] (spStart K)) (k__law_drawn : KnDr P w K mg base) (k__law_number : KnNum P w K mg base)
    (k__law_deed : Kn P w K mg base CX0 3 "_law_deed" ["_law_state", "_law_place", "_law_most"] [] (spLDeed K)) (k__law_words : Kn P w K mg base CX0 2 "_law_words" ["_law_deed_here", "_law_place"] [] (spLWords K))
    (k__law_same : Kn P w K mg base CX0 3 "_law_same" ["_law_found", "_law_due"] [] (spSame K 3)) (k_packed : Kn P w K mg base (L2.CX P w) 4 "packed" ["deed", "place"] [] (spPacked K odd)) (k_packed_1 : Kn P w K mg base (L2.CX P w) 4 "packed" ["deed", "place"] [.int 0] (spPacked K odd))
    (g_range : mg "range" = none) (g_max : mg "max" = none) : FnOk P w K mg base CX0 5 f fd ["_law_script"] (spLaw K) := by
  refine F.ok sc_law (fun vs H Q E h => ?_) (fun cdv A outer s H vs Q E hr h => ?_)
  · obtain ⟨a, ns, rfl, _⟩ := h
    rfl
  · obtain ⟨a, ns, rfl, hS, h63, q⟩ := h
    refine ⟨_, PSs.nox (pss_cons (ps_set (i := 1) sc_law.nd rfl (Or.inl rfl) (pk k__law_start hr (by decide) rfl pass0 (pa_cons (pv 0) pa_nil)))
      (pss_cons (ps_for PassesOwn.never rfl (pi_range1 rfl g_range (pa_cons pe_int pa_nil)) (pg_name (i := 2) sc_law.nd rfl (Or.inl rfl))
      (pss_cons (ps_set (i := 3) sc_law.nd rfl (Or.inl rfl) (pk k__law_drawn hr (by decide) rfl pass0 (pa_cons (pv 1) (pa_cons pe_int pa_nil))))
      (pss_cons (ps_set (i := 4) sc_law.nd rfl (Or.inl rfl) (pk k__law_deed hr (by decide) rfl pass0 (pa_cons (pv 1) (pa_cons (pv 3) (pa_cons (pe_ix ix_list (pe_lst (pa_cons pe_int (pa_cons pe_int pa_nil))) (pk k__law_drawn hr (by decide) rfl pass0 (pa_cons (pv 1) (pa_cons pe_int pa_nil))) (fun _ _ => rfl)) pa_nil)))))
      (Evl.pss_cut (ps_if (PW.pt (pw_and (pt_cmpR op_in_seq (pe_ix ix_tup (pv 4) pe_int (fun _ _ => rfl)) (pe_tup (pa_cons pe_str (pa_cons pe_str pa_nil))) rfl) (pw_and1 (pt_not (pt_val (pe_ix ix_tup (pv 4) (pe_un un_neg pe_int) (fun _ _ => rfl))))))) (pss_one (ps_set (i := 4) sc_law.nd rfl (Or.inl rfl) (pe_op op_catA (pe_slice sl_tupA (pv 4) po_none (po_some (pe_un un_neg pe_int))) (pe_tup (pa_cons (pe_callB (call_max2 rfl) rfl g_max (by decide +kernel) (pa_cons pe_int (pa_cons (pe_op op_add (pe_op op_add (pv 3) pe_int) (pk k__law_number hr (by decide) rfl pass0 (pa_cons (pv 1) (pa_cons (pe_op op_sub pe_int pe_int) (pa_cons pe_int pa_nil))))) pa_nil))) (pa_cons pe_bl pa_nil)))))) pss_nil)
      (pss_cons (ps_set (i := 5) sc_law.nd rfl (Or.inl rfl) (pk k__law_words hr (by decide) rfl pass0 (pa_cons (pv 4) (pa_cons (pv 3) pa_nil))))
      (pss_cons (ps_if (pt_not (pt_val (pk k__law_same hr (by decide) rfl pass0 (pa_cons (pe_lst (pa_cons (pk k_packed hr (by decide) rfl passQ (pa_cons (pv 4) (pa_cons (pv 3) pa_nil))) (pa_cons (pk k_packed hr (by decide) rfl passQ (pa_cons (pv 4) (pa_cons (pv 3) pa_nil))) pa_nil))) (pa_cons (pe_lst (pa_cons (pv 5) (pa_cons (pv 5) pa_nil))) pa_nil))))) (pss_one (ps_ret pe_bl)) pss_nil)
      (pss_cons (ps_set (i := 6) sc_law.nd rfl (Or.inl rfl) (pk k__law_deed hr (by decide) rfl pass0 (pa_cons (pv 1) (pa_cons pe_int (pa_cons pe_int pa_nil)))))
      (pss_one (ps_if (pt_not (pt_val (pk k__law_same hr (by decide) rfl pass0 (pa_cons (pe_lst (pa_cons (pk k_packed_1 hr (by decide) rfl passQ (pa_cons (pv 6) pa_nil)) (pa_cons (pk k_packed hr (by decide) rfl passQ (pa_cons (pv 6) (pa_cons pe_int pa_nil))) pa_nil))) (pa_cons (pe_op op_rep (pe_lst (pa_cons (pk k__law_words hr (by decide) rfl pass0 (pa_cons (pv 6) (pa_cons pe_int pa_nil))) pa_nil)) pe_int) pa_nil))))) (pss_one (ps_ret pe_bl)) pss_nil)))))))))
      (pss_one (ps_ret pe_bl)))), ?_⟩
    refine ⟨_, rfl, a, ns, rfl, hS, h63, fun st H1 hst0 s1 hst => ?_⟩
    have S0 : ∃ S : Sk, S = ⟨st, a, ns⟩ := ⟨_, rfl⟩
    obtain ⟨S, hSk⟩ := S0
    rw [← hSk] at hst
    have est : V.ref st = V.ref S.st := by rw [hSk]
    refine ⟨_, rfl, by decide, by decide, for_range (n := 12) (fun i σ H2 => ∃ v2 v3 v4 v5 v6 : Option V, σ = [some (.ref a), some (.ref S.st), v2, v3, v4, v5, v6] ∧ St K H2 S) ⟨none, none, none, none, none, by rw [← est]; rfl, hst⟩ ?_ ?_⟩
    · rintro i σ H2 hi ⟨v2, v3, v4, v5, v6, rfl, hst2⟩
      have hl : (i : Int) < 12 := by omega
      -- packed and the law's own words are the same, twice
      refine ⟨_, rfl, S, 200, rfl, hst2, by decide, by decide, fun pl Ha p0 p1 ka => ?_⟩
      refine ⟨_, rfl, _, rfl, line5 (by simp), fun l hl => ?_⟩
      obtain ⟨ls, hls⟩ := ka.st.lst
      have nl : l ≠ S.st := Ne.symm (ne_of_none hls hl)
      have sb : Same Ha (upd Ha l (.lst [.int 199, .int 65535])) := Same.add hl
      have eb : (upd Ha l (.lst [.int 199, .int 65535])) l = some (.lst [.int 199, .int 65535]) := upd_same
      generalize upd Ha l (.lst [.int 199, .int 65535]) = Hb at sb eb ⊢
      refine ⟨_, rfl, S, 2, rfl, ka.st.same sb, by decide, by decide, fun r Hc r0 r1 kc => ?_⟩
      refine ⟨_, _, _, _, rfl, rfl, kc.lst nl (SqL.of eb), two_int r0 r1, S, pl, (if r = 0 then 199 else 65535), rfl, kc.st, by split <;> decide, by split <;> decide, fun d p1 Hd hok hre _ kd ed => ?_⟩
      obtain ⟨z, rr, hv, hgo⟩ := goes_in d hok
      have hSd := SqT.of (K := K) ed
      refine ⟨fun σ H' => ∃ (d : De) (p2 : Addr), σ = [some (.ref a), some (.ref S.st), some (.int (0 + (i : Int))), some (.int pl), some (.ref p2), v5, v6] ∧ St K H' S ∧ d.ok ∧ d.reached pl ∧ SqT K H' p2 d.vals, ?_, ?_⟩
      · have hSz := hSd
        rw [hv] at hSz
        refine ⟨_, rfl, _, _, _, _, rfl, rfl, hSz, at0, line5 (by simp), fun p2 hp2 => ?_⟩
        have se : Same Hd (upd Hd p2 (.tup [.str "jump", .str "call"])) := Same.add hp2
        have ee : (upd Hd p2 (.tup [.str "jump", .str "call"])) p2 = some (.tup [.str "jump", .str "call"]) := upd_same
        generalize upd Hd p2 (.tup [.str "jump", .str "call"]) = He at se ee ⊢
        refine ⟨_, _, rfl, .inr (SqT.of ee), rfl, rfl, _, rfl, ?_⟩
        show if inV (.str z) [.str "jump", .str "call"] = true then _ else _
        rw [hgo]
        have ke := kd.st.same se
        have hSe := Same.tup se hSd
        cases hg : d.goes with
        | false => exact iteF (iteF ⟨d, p1, rfl, ke, hok, hre, hSe⟩)
        | true =>
          refine iteT ?_
          cases d with
          | jump k g far =>
            have hS9 : SqT K He p1 [.str "jump", .str (nm TM k), .int g, .bl far] := hSe
            have m1 : atI ([.str "jump", .str (nm TM k), .int g, .bl far] : List V) (-1) = some (.bl far) := rfl
            refine ⟨_, rfl, _, rfl, _, _, _, _, rfl, rfl, hS9, m1, _, rfl, ?_⟩
            cases far with
            | true => exact iteF ⟨_, p1, rfl, ke, hok, hre, hSe⟩
            | false =>
              refine iteT ?_
              have ec : cutV ([.str "jump", .str (nm TM k), .int g, .bl false]) none (some (-2)) = [.str "jump", .str (nm TM k)] := rfl
              refine ⟨_, rfl, _, rfl, _, rfl, _, _, rfl, hS9, fun z => absurd z.2 (Nat.ne_of_beq_eq_false rfl), fun _ p3 hp3 => ?_⟩
              have sf : Same He (upd He p3 (.tup (cutV ([.str "jump", .str (nm TM k), .int g, .bl false]) none (some (-2))))) := Same.add hp3
              have ef : (upd He p3 (.tup (cutV ([.str "jump", .str (nm TM k), .int g, .bl false]) none (some (-2))))) p3 = some (.tup (cutV ([.str "jump", .str (nm TM k), .int g, .bl false]) none (some (-2)))) := upd_same
              generalize upd He p3 (.tup (cutV ([.str "jump", .str (nm TM k), .int g, .bl false]) none (some (-2)))) = Hf at sf ef ⊢
              rw [ec] at ef
              refine ⟨_, rfl, _, _, rfl, rfl, _, rfl, _, _, rfl, rfl, S, 0 - 16, 15, rfl, ke.same sf, by decide, by decide, fun n Hg n0 n1 kg => ⟨_, _, rfl, rfl, _, _, rfl, line5 (by simp), fun p4 hp4 => ?_⟩⟩
              have hb : 0 ≤ (if pl + 1 + n > 0 then pl + 1 + n else 0) ∧ (if pl + 1 + n > 0 then pl + 1 + n else 0) ≤ 65535 ∧ near (if pl + 1 + n > 0 then pl + 1 + n else 0) pl := by
                unfold near
                split <;> omega
              generalize (if pl + 1 + n > 0 then pl + 1 + n else 0) = g2 at hb ⊢
              have sh : Same Hg (upd Hg p4 (.tup [.int g2, .bl false])) := Same.add hp4
              have eh : (upd Hg p4 (.tup [.int g2, .bl false])) p4 = some (.tup [.int g2, .bl false]) := upd_same
              generalize upd Hg p4 (.tup [.int g2, .bl false]) = Hh at sh eh ⊢
              refine ⟨_, _, _, _, rfl, rfl, Same.tup sh (kg.tup (SqT.of ef)), SqT.of eh, line5 (by simp), (fun z => by cases z), (fun _ z => by cases z), fun _ _ p5 hp5 => ?_⟩
              exact ⟨.jump k g2 false, p5, rfl, (kg.st.same sh).same (Same.add hp5), ⟨hok.1, hb.1, hb.2.1⟩, hb.2.2, SqT.of upd_same⟩
          | call g far =>
            have hS9 : SqT K He p1 [.str "call", .int g, .bl far] := hSe
            have m1 : atI ([.str "call", .int g, .bl far] : List V) (-1) = some (.bl far) := rfl
            refine ⟨_, rfl, _, rfl, _, _, _, _, rfl, rfl, hS9, m1, _, rfl, ?_⟩
            cases far with
            | true => exact iteF ⟨_, p1, rfl, ke, hok, hre, hSe⟩
            | false =>
              refine iteT ?_
              have ec : cutV ([.str "call", .int g, .bl false]) none (some (-2)) = [.str "call"] := rfl
              refine ⟨_, rfl, _, rfl, _, rfl, _, _, rfl, hS9, fun z => absurd z.2 (Nat.ne_of_beq_eq_false rfl), fun _ p3 hp3 => ?_⟩
              have sf : Same He (upd He p3 (.tup (cutV ([.str "call", .int g, .bl false]) none (some (-2))))) := Same.add hp3
              have ef : (upd He p3 (.tup (cutV ([.str "call", .int g, .bl false]) none (some (-2))))) p3 = some (.tup (cutV ([.str "call", .int g, .bl false]) none (some (-2)))) := upd_same
              generalize upd He p3 (.tup (cutV ([.str "call", .int g, .bl false]) none (some (-2)))) = Hf at sf ef ⊢
              rw [ec] at ef
              refine ⟨_, rfl, _, _, rfl, rfl, _, rfl, _, _, rfl, rfl, S, 0 - 16, 15, rfl, ke.same sf, by decide, by decide, fun n Hg n0 n1 kg => ⟨_, _, rfl, rfl, _, _, rfl, line5 (by simp), fun p4 hp4 => ?_⟩⟩
              have hb : 0 ≤ (if pl + 1 + n > 0 then pl + 1 + n else 0) ∧ (if pl + 1 + n > 0 then pl + 1 + n else 0) ≤ 65535 ∧ near (if pl + 1 + n > 0 then pl + 1 + n else 0) pl := by
                unfold near
                split <;> omega
              generalize (if pl + 1 + n > 0 then pl + 1 + n else 0) = g2 at hb ⊢
              have sh : Same Hg (upd Hg p4 (.tup [.int g2, .bl false])) := Same.add hp4
              have eh : (upd Hg p4 (.tup [.int g2, .bl false])) p4 = some (.tup [.int g2, .bl false]) := upd_same
              generalize upd Hg p4 (.tup [.int g2, .bl false]) = Hh at sh eh ⊢
              refine ⟨_, _, _, _, rfl, rfl, Same.tup sh (kg.tup (SqT.of ef)), SqT.of eh, line5 (by simp), (fun z => by cases z), (fun _ z => by cases z), fun _ _ p5 hp5 => ?_⟩
              exact ⟨.call g2 false, p5, rfl, (kg.st.same sh).same (Same.add hp5), ⟨hb.1, hb.2.1⟩, hb.2.2, SqT.of upd_same⟩
          | _ => cases hg
      · rintro σ' H' ⟨d, p2, rfl, hst3, hok, hre, hSd⟩
        clear hv hgo
        have hOk : ∀ (H9 : Hp), ∀ x ∈ d.vals, OkV K H9 x := fun H9 => vals_ok d
        have hB := deed_vals hok
        refine ⟨_, rfl, _, rfl, p2, d, pl, rfl, hSd, hok, fun t He se et => ?_⟩
        have hSe := Same.tup se hSd
        have pp : 0 ≤ pl ∧ pl ≤ 199 := by omega
        refine ⟨_, rfl, _, rfl, p2, d.vals, pl, rfl, hSe, vals_ok d, vals_name d hok odd, .inr ⟨d, hok, rfl, fun z => absurd pp z, fun _ z => absurd hre z, fun _ _ q1 Hf sf ef => ?_⟩⟩
        refine ⟨_, rfl, _, rfl, p2, d.vals, pl, rfl, (Same.tup sf hSe), vals_ok d, vals_name d hok odd, .inr ⟨d, hok, rfl, fun z => absurd pp z, fun _ z => absurd hre z, fun _ _ q2 Hg sg eg => ?_⟩⟩
        refine ⟨line5 (by simp), fun l1 hl1 => ?_⟩
        have sh : Same Hg (upd Hg l1 (.lst [.ref q1, .ref q2])) := Same.add hl1
        have eh : (upd Hg l1 (.lst [.ref q1, .ref q2])) l1 = some (.lst [.ref q1, .ref q2]) := upd_same
        generalize upd Hg l1 (.lst [.ref q1, .ref q2]) = Hh at sh eh ⊢
        refine ⟨_, rfl, _, rfl, line5 (by simp), fun l2 hl2 => ?_⟩
        have si : Same Hh (upd Hh l2 (.lst [.ref t, .ref t])) := Same.add hl2
        have ei : (upd Hh l2 (.lst [.ref t, .ref t])) l2 = some (.lst [.ref t, .ref t]) := upd_same
        generalize upd Hh l2 (.lst [.ref t, .ref t]) = Hi at si ei ⊢
        have ht := si _ _ (sh _ _ (sg _ _ (sf _ _ et)))
        have h1 := si _ _ (sh _ _ (sg _ _ ef))
        have h2 := si _ _ (sh _ _ eg)
        have hw := words_len d pl
        have dd := dpAll_ints (K := K) (H := Hi) (d.words pl)
        have pd := pair_data (d.words pl) hw
        refine ⟨.ref l1, .ref l2, _, rfl, .lst (SqL.of (si _ _ eh)) (.cons (.tup (SqT.of h1) dd) (.cons (.tup (SqT.of h2) dd) .nil)), .lst (SqL.of ei) (.cons (.tup (SqT.of ht) dd) (.cons (.tup (SqT.of ht) dd) .nil)), pd.1, pd.2, fun Hj sj => ⟨_, rfl, iteF ?_⟩⟩
        have kA : St K Hj S := hst3.same (Same.trans se (Same.trans sf (Same.trans sg (Same.trans sh (Same.trans si sj)))))
        refine ⟨_, rfl, S, 0, 16, rfl, kA, by decide, by decide, fun d5 p5 Hk ok5 re5 _ kk ek => ?_⟩
        have hS5 := SqT.of (K := K) ek
        refine ⟨_, rfl, p5, d5.vals, 0, rfl, hS5, vals_ok d5, vals_name d5 ok5 odd, .inr ⟨d5, ok5, rfl, fun z => absurd (show (0 : Int) ≤ 0 ∧ (0 : Int) ≤ 199 by decide) z, fun _ z => absurd re5 z, fun _ _ q3 Hl sl el => ?_⟩⟩
        refine ⟨_, rfl, p5, d5.vals, 0, rfl, (Same.tup sl hS5), vals_ok d5, vals_name d5 ok5 odd, .inr ⟨d5, ok5, rfl, fun z => absurd (show (0 : Int) ≤ 0 ∧ (0 : Int) ≤ 199 by decide) z, fun _ z => absurd re5 z, fun _ _ q4 Hm sm em => ?_⟩⟩
        refine ⟨line5 (by simp), fun l3 hl3 => ?_⟩
        have sn : Same Hm (upd Hm l3 (.lst [.ref q3, .ref q4])) := Same.add hl3
        have en : (upd Hm l3 (.lst [.ref q3, .ref q4])) l3 = some (.lst [.ref q3, .ref q4]) := upd_same
        generalize upd Hm l3 (.lst [.ref q3, .ref q4]) = Hn at sn en ⊢
        refine ⟨_, rfl, p5, d5, 0, rfl, Same.tup (Same.trans sl (Same.trans sm sn)) hS5, ok5, fun t5 Ho so eo => ?_⟩
        refine ⟨line5 (by simp), fun l4 hl4 => ?_⟩
        have sp : Same Ho (upd Ho l4 (.lst [.ref t5])) := Same.add hl4
        have ep : (upd Ho l4 (.lst [.ref t5])) l4 = some (.lst [.ref t5]) := upd_same
        generalize upd Ho l4 (.lst [.ref t5]) = Hp at sp ep ⊢
        refine ⟨_, _, _, rfl, rfl, ep, by decide, by decide, line5 (by simp), fun l5 hl5 => ?_⟩
        have s5 : Same Hp (upd Hp l5 (.lst (List.replicate (2 : Int).toNat [V.ref t5]).flatten)) := Same.add hl5
        have e5 : (upd Hp l5 (.lst (List.replicate (2 : Int).toNat [V.ref t5]).flatten)) l5 = some (.lst [.ref t5, .ref t5]) := upd_same
        generalize upd Hp l5 (.lst (List.replicate (2 : Int).toNat [V.ref t5]).flatten) = Hq at s5 e5 ⊢
        have k3 := s5 _ _ (sp _ _ (so _ _ (sn _ _ (sm _ _ el))))
        have k4 := s5 _ _ (sp _ _ (so _ _ (sn _ _ em)))
        have k5 := s5 _ _ (sp _ _ eo)
        have l3' := s5 _ _ (sp _ _ (so _ _ en))
        have dd := dpAll_ints (K := K) (H := Hq) (d5.words 0)
        have pd := pair_data (d5.words 0) (words_len d5 0)
        refine ⟨.ref l3, .ref l5, _, rfl, .lst (SqL.of l3') (.cons (.tup (SqT.of k3) dd) (.cons (.tup (SqT.of k4) dd) .nil)), .lst (SqL.of e5) (.cons (.tup (SqT.of k5) dd) (.cons (.tup (SqT.of k5) dd) .nil)), pd.1, pd.2, fun Hr sr => ⟨_, rfl, iteF ?_⟩⟩
        exact ⟨_, _, _, _, _, rfl, kk.st.same (Same.trans sl (Same.trans sm (Same.trans sn (Same.trans so (Same.trans sp (Same.trans s5 sr))))))⟩
    · rintro σ H2 ⟨v2, v3, v4, v5, v6, rfl, hst2⟩
      exact q H2
end
end Bm
set_option maxHeartbeats 0
namespace Bm
open PySem PySem.Spec PyProof.Rows L2
def tfL : List He.Defn := []
def exB (K : PySem.W.Frag) : Bool := conB [] K
def LIM : Nat := 6
abbrev hk : PySem.W.Hook := He.hookX LIM faL fnL tsL tfL exB
def ob (s : PySem.W.SharedT) : He.AlX := He.obsX LIM faL fnL tsL tfL exB (HandSHeadRun.getT s)
theorem ob_eq (s : PySem.W.SharedT) : ob s = hk.obs s.abs := He.obsX_eq (HandSHeadRun.getT_eq s)
theorem run_f (w : World) : HandSHeadRun.RunEq R (PySem.W.view R.prog [LAWI]) hk ob 6000 looseL (w.withFollow "special-get-raises" false) := by
  intro os
  kernel_rfl
theorem run_t (w : World) : HandSHeadRun.RunEq R (PySem.W.view R.prog [LAWI]) hk ob 6000 looseL (w.withFollow "special-get-raises" true) := by
  intro os
  kernel_rfl
theorem run (w : World) : HandSHeadRun.RunEq R (PySem.W.view R.prog [LAWI]) hk ob 6000 looseL w :=
  PySem.W.byRow2 "special-get-raises" (P := fun w => HandSHeadRun.RunEq R (PySem.W.view R.prog [LAWI]) hk ob 6000 looseL w) run_f run_t w
end Bm
set_option maxHeartbeats 800000
namespace Bm
open PySem PySem.Spec PyProof.Rows L2
section
variable {P : Program} {w : World} {K : PySem.W.Frag} {mg : Str → Option Value} {base : Heap}
/-- a def of no defaults -/
theorem kn_of {CX : CXT} {k : Nat} {x : Str} {ps : List Str} {sp : Sp} {st : Stmt} {fd : FuncData} (g : mg x = some (.ref (He.ga K x))) (F : FunD K x x (defArgs st) (defBody st) (defScope st) [] [] (He.ga K x) fd) (ok : FnOk P w K mg base CX k (He.ga K x) fd ps sp)
    (h : ∀ (kV doc pm : Value) (an : Option Addr) (cdv ct : Value) (us : List Value), us.length = ps.length → bindArgs (PySem.W.fnOf x x (defArgs st) (defBody st) (defScope st) .none kV doc pm an cdv ct) ⟨us, []⟩ = pure (ps.zip us)) : Kn P w K mg base CX k x ps [] sp :=
  ⟨_, fd, [], g, F.kp, ok, F.bindsN h, .nil⟩
/-- a def with defaults, of which the first j are written over -/
theorem kn_dfl {CX : CXT} {k : Nat} {x : Str} {ps : List Str} {sp : Sp} {st : Stmt} {fd : FuncData} {dvs : List V} (n j : Nat) (g : mg x = some (.ref (He.ga K x))) (F : FunD K x x (defArgs st) (defBody st) (defScope st) dvs [] (He.ga K x) fd) (ok : FnOk P w K mg base CX k (He.ga K x) fd ps sp)
    (hd : dvs ≠ []) (hn : n + (dvs.length - j) = ps.length) (h : ∀ (T : Addr) (kV doc pm : Value) (an : Option Addr) (cdv ct : Value) (us its : List Value), us.length = n → its.length = dvs.length →
      ∃ k, bindArgs (PySem.W.fnOf x x (defArgs st) (defBody st) (defScope st) (.ref T) kV doc pm an cdv ct) ⟨us, []⟩ = seqItems? (.ref T) >>= k ∧ k (some its.toArray) = pure (ps.zip (us ++ its.drop j))) : Kn P w K mg base CX k x ps (dvs.drop j) sp := by
  obtain ⟨ds, h1, h2⟩ := F.binds1 n j hd hn h
  exact ⟨_, fd, ds, g, F.kp, ok, h2, h1⟩
theorem same_n {fd : FuncData} (g : mg "_law_same" = some (.ref (He.ga K "_law_same"))) (F : FunD K "_law_same" "_law_same" (defArgs s__law_same) (defBody s__law_same) (defScope s__law_same) [] [] (He.ga K "_law_same") fd)
    (g_isinstance : mg "isinstance" = none) (g_tuple : mg "tuple" = none) (g_list : mg "list" = none) (g_bool : mg "bool" = none) (g_int : mg "int" = none) (g_len : mg "len" = none) (g_range : mg "range" = none) :
    ∀ n, Kn P w K mg base CX0 n "_law_same" ["_law_found", "_law_due"] [] (spSame K n)
  | 0 => kn_of g F ⟨fun vs H Q E h => by obtain ⟨x, y, d, _, _, _, z, _⟩ := h; exact absurd z (Nat.not_lt_zero _), fun A outer s H args us vs Q E _ _ _ _ h => by obtain ⟨x, y, d, _, _, _, z, _⟩ := h; exact absurd z (Nat.not_lt_zero _)⟩
      (fun _ _ _ _ _ _ us hl => match us, hl with | [_, _], _ => rfl)
  | n + 1 => kn_of g F (ok_same F g_isinstance g_tuple g_list g_bool g_int g_len g_range (same_n g F g_isinstance g_tuple g_list g_bool g_int g_len g_range n)) (fun _ _ _ _ _ _ us hl => match us, hl with | [_, _], _ => rfl)
end
theorem ex1_of {K : PySem.W.Frag} {mg : Str → Option Value} {x : Str} (g : mg x = some (.ref (He.ga K x))) (h : PySem.W.excIn K (He.ga K x) He.veBase "ValueError.__new__" = true ∧ PySem.W.keepIn K (.ref (He.ga K x)) = true ∧ PySem.W.subIn K (.ref (He.ga K x)) (.type "BaseException") = some true ∧ PySem.W.typeIn K (.ref (He.ga K x)) = some (.type "type")) : Ex1 K mg x :=
  ⟨g, h.1, h.2.1, h.2.2.1, h.2.2.2⟩
theorem facts {P : Program} {w : World} {K : PySem.W.Frag} {h h' : Heap} {mg : Str → Option Value} {f : Addr} (KX : K.In h) (G : h.Ns mainGlobals mg) (hfa : mg ("law" : Str) = some (.ref f)) (c : He.SaysX faL fnL tsL tfL exB w h' K) :
    ∃ fd : FuncData, (∀ (s : Shared) (v : Value), BindsTo s fd ⟨[v], []⟩ [("_law_script", v)]) ∧ ∀ base : Heap, K.In base → base.Ns mainGlobals mg → FnOk P w K mg base CX0 5 f fd ["_law_script"] (spLaw K) := by
  have hC : Con w K mg [] := con_of c.more (He.glo_ok KX G (c.t.d.fact 5 (f := .glo "SINGLES") rfl)) (He.glo_ok KX G (c.t.d.fact 6 (f := .glo "SUMS") rfl)) (He.glo_ok KX G (c.t.d.fact 7 (f := .glo "TIMES") rfl)) (He.glo_ok KX G (c.t.d.fact 8 (f := .glo "PARTS") rfl)) (He.glo_ok KX G (c.t.d.fact 9 (f := .glo "SPANS") rfl)) (c.t.tab 0 (t := (fun K => He.ga K "PARTS", _)) rfl) (c.t.tab 1 (t := (fun K => He.ga K "SPANS", _)) rfl)
  obtain ⟨fd1, F1⟩ := (c.t.d.def_ 8 (d := d_fields) rfl)
  obtain ⟨fd2, F2⟩ := (c.t.d.def_ 5 (d := d_going_words) rfl)
  obtain ⟨fdr, Fr⟩ := (c.t.d.def_ 6 (d := d_is_reached) rfl)
  obtain ⟨fd3, F3⟩ := (c.t.d.def_ 7 (d := d_only_word) rfl)
  obtain ⟨fd4, F4⟩ := (c.t.d.def_ 4 (d := d_words_of) rfl)
  obtain ⟨fd5, F5⟩ := (c.t.d.def_ 0 (d := d_is_number) rfl)
  obtain ⟨fd6, F6⟩ := (c.t.d.def_ 1 (d := d_is_part) rfl)
  obtain ⟨fd7, F7⟩ := (c.t.d.def_ 2 (d := d_is_deed) rfl)
  obtain ⟨fd8, F8⟩ := (c.t.d.def_ 3 (d := d_packed) rfl)
  obtain ⟨fd10, F10⟩ := (c.t.d.def_ 9 (d := d__law_start) rfl)
  obtain ⟨fd11, F11⟩ := (c.t.d.def_ 10 (d := d__law_drawn) rfl)
  obtain ⟨fd12, F12⟩ := (c.t.d.def_ 11 (d := d__law_same) rfl)
  obtain ⟨fd13, F13⟩ := (c.t.d.def_ 12 (d := d__law_plain) rfl)
  obtain ⟨fd14, F14⟩ := (c.t.d.def_ 13 (d := d__law_pairs) rfl)
  obtain ⟨fd15, F15⟩ := (c.t.d.def_ 14 (d := d__law_times) rfl)
  obtain ⟨fd16, F16⟩ := (c.t.d.def_ 15 (d := d__law_number) rfl)
  obtain ⟨fd17, F17⟩ := (c.t.d.def_ 16 (d := d__law_deed) rfl)
  obtain ⟨fd18, F18⟩ := (c.t.d.def_ 17 (d := d__law_words) rfl)
  obtain ⟨fd, F⟩ := (c.t.d.def_ 18 (d := d_law) rfl)
  have e := hfa.symm.trans (He.glo_ok KX G (c.t.d.fact 27 (f := .glo "law") rfl))
  cases e
  have b := FunD.bindsA (ps := ["_law_script"]) F fun _ _ _ _ _ _ us hl => match us, hl with | [_], _ => rfl
  refine ⟨fd, fun s v => b s [v] rfl, fun base hb1 hb2 => ?_⟩
  have kF0 : KnF P w K mg base [] := kn_dfl (st := s_fields) 3 1 (He.glo_ok KX G (c.t.d.fact 17 (f := .glo "fields") rfl)) F1 (ok_fields F1) (by intro z; cases z) rfl (fun _ _ _ _ _ _ _ us its h1 h2 => match us, its, h1, h2 with | [_, _, _], [_], _, _ => ⟨_, rfl, rfl⟩)
  have kF1 : KnF P w K mg base [.int 0] := kn_dfl (st := s_fields) 2 0 (He.glo_ok KX G (c.t.d.fact 17 (f := .glo "fields") rfl)) F1 (ok_fields F1) (by intro z; cases z) rfl (fun _ _ _ _ _ _ _ us its h1 h2 => match us, its, h1, h2 with | [_, _], [_], _, _ => ⟨_, rfl, rfl⟩)
  have kRe : KnRe P w K mg base := kn_of (st := s_is_reached) (He.glo_ok KX G (c.t.d.fact 15 (f := .glo "is_reached") rfl)) Fr (ok_reached Fr) (fun _ _ _ _ _ _ us hl => match us, hl with | [_, _], _ => rfl)
  have kG : KnG P w K mg base := kn_of (st := s_going_words) (He.glo_ok KX G (c.t.d.fact 14 (f := .glo "going_words") rfl)) F2 (ok_going F2 kF1 kRe) (fun _ _ _ _ _ _ us hl => match us, hl with | [_, _, _, _, _], _ => rfl)
  have kO : KnO P w K mg base := kn_of (st := s_only_word) (He.glo_ok KX G (c.t.d.fact 16 (f := .glo "only_word") rfl)) F3 (ok_only F3 hC kF0 kF1) (fun _ _ _ _ _ _ us hl => match us, hl with | [_], _ => rfl)
  have kW : KnW P w K mg base := kn_of (st := s_words_of) (He.glo_ok KX G (c.t.d.fact 13 (f := .glo "words_of") rfl)) F4 (ok_words_of F4 hC kG kO) (fun _ _ _ _ _ _ us hl => match us, hl with | [_, _], _ => rfl)
  have kN : KnN P w K mg base := kn_of (st := s_is_number) (He.glo_ok KX G (c.t.d.fact 4 (f := .glo "is_number") rfl)) F5 (ok_num F5 (He.free_ok KX G (c.t.d.fact 32 (f := .free "isinstance") rfl)) (He.free_ok KX G (c.t.d.fact 30 (f := .free "bool") rfl)) (He.free_ok KX G (c.t.d.fact 31 (f := .free "int") rfl))) (fun _ _ _ _ _ _ us hl => match us, hl with | [_, _, _], _ => rfl)
  have kP : KnP P w K mg base := kn_of (st := s_is_part) (He.glo_ok KX G (c.t.d.fact 10 (f := .glo "is_part") rfl)) F6 (ok_part F6 hC (He.free_ok KX G (c.t.d.fact 32 (f := .free "isinstance") rfl)) (He.free_ok KX G (c.t.d.fact 30 (f := .free "bool") rfl)) kN) (fun _ _ _ _ _ _ us hl => match us, hl with | [_, _], _ => rfl)
  have kD : KnD P w K mg base [] := kn_of (st := s_is_deed) (He.glo_ok KX G (c.t.d.fact 11 (f := .glo "is_deed") rfl)) F7 (ok_deed F7 hC (fun _ hx => by cases hx) (He.free_ok KX G (c.t.d.fact 32 (f := .free "isinstance") rfl)) (He.free_ok KX G (c.t.d.fact 40 (f := .free "tuple") rfl)) (He.free_ok KX G (c.t.d.fact 38 (f := .free "str") rfl)) (He.free_ok KX G (c.t.d.fact 33 (f := .free "len") rfl)) (He.free_ok KX G (c.t.d.fact 29 (f := .free "all") rfl)) (He.free_ok KX G (c.t.d.fact 41 (f := .free "zip") rfl)) kP) (fun _ _ _ _ _ _ us hl => match us, hl with | [_], _ => rfl)
  have okP := ok_packed (P := P) (base := base) F8 kD kN kW (ex1_of (He.glo_ok KX G (c.t.d.fact 1 (f := .glo "BadDeed") rfl)) (He.exc_ok (c.t.d.fact 42 (f := .exc "BadDeed") rfl))) (ex1_of (He.glo_ok KX G (c.t.d.fact 3 (f := .glo "BadCount") rfl)) (He.exc_ok (c.t.d.fact 44 (f := .exc "BadCount") rfl))) (ex1_of (He.glo_ok KX G (c.t.d.fact 2 (f := .glo "BadReach") rfl)) (He.exc_ok (c.t.d.fact 43 (f := .exc "BadReach") rfl))) (He.int_ok KX G (c.t.d.fact 28 (f := .int "IMAGE_MOST" 200) rfl))
  have kK0 : Kn P w K mg base (L2.CX P w) 4 "packed" ["deed", "place"] [] (spPacked K []) := kn_dfl (st := s_packed) 2 1 (He.glo_ok KX G (c.t.d.fact 12 (f := .glo "packed") rfl)) F8 okP (by intro z; cases z) rfl (fun _ _ _ _ _ _ _ us its h1 h2 => match us, its, h1, h2 with | [_, _], [_], _, _ => ⟨_, rfl, rfl⟩)
  have kK1 : Kn P w K mg base (L2.CX P w) 4 "packed" ["deed", "place"] [.int 0] (spPacked K []) := kn_dfl (st := s_packed) 1 0 (He.glo_ok KX G (c.t.d.fact 12 (f := .glo "packed") rfl)) F8 okP (by intro z; cases z) rfl (fun _ _ _ _ _ _ _ us its h1 h2 => match us, its, h1, h2 with | [_], [_], _, _ => ⟨_, rfl, rfl⟩)
  have kS := kn_of (P := P) (w := w) (base := base) (st := s__law_start) (He.glo_ok KX G (c.t.d.fact 18 (f := .glo "_law_start") rfl)) F10 (ok_start F10) (fun _ _ _ _ _ _ us hl => match us, hl with | [_], _ => rfl)
  have kDr : KnDr P w K mg base := kn_of (st := s__law_drawn) (He.glo_ok KX G (c.t.d.fact 19 (f := .glo "_law_drawn") rfl)) F11 (ok_drawn F11 (He.free_ok KX G (c.t.d.fact 33 (f := .free "len") rfl))) (fun _ _ _ _ _ _ us hl => match us, hl with | [_, _], _ => rfl)
  have kSm := same_n (P := P) (w := w) (base := base) (He.glo_ok KX G (c.t.d.fact 20 (f := .glo "_law_same") rfl)) F12 (He.free_ok KX G (c.t.d.fact 32 (f := .free "isinstance") rfl)) (He.free_ok KX G (c.t.d.fact 40 (f := .free "tuple") rfl)) (He.free_ok KX G (c.t.d.fact 34 (f := .free "list") rfl)) (He.free_ok KX G (c.t.d.fact 30 (f := .free "bool") rfl)) (He.free_ok KX G (c.t.d.fact 31 (f := .free "int") rfl)) (He.free_ok KX G (c.t.d.fact 33 (f := .free "len") rfl)) (He.free_ok KX G (c.t.d.fact 37 (f := .free "range") rfl)) 3
  have k1 : KnNm P w K mg base "_law_plain" SG := kn_of (st := s__law_plain) (He.glo_ok KX G (c.t.d.fact 21 (f := .glo "_law_plain") rfl)) F13 (ok_plain F13) (fun _ _ _ _ _ _ us hl => match us, hl with | [], _ => rfl)
  have k2 : KnNm P w K mg base "_law_pairs" SM := kn_of (st := s__law_pairs) (He.glo_ok KX G (c.t.d.fact 22 (f := .glo "_law_pairs") rfl)) F14 (ok_pairs F14) (fun _ _ _ _ _ _ us hl => match us, hl with | [], _ => rfl)
  have k3 : KnNm P w K mg base "_law_times" TM := kn_of (st := s__law_times) (He.glo_ok KX G (c.t.d.fact 23 (f := .glo "_law_times") rfl)) F15 (ok_times F15) (fun _ _ _ _ _ _ us hl => match us, hl with | [], _ => rfl)
  have kNu : KnNum P w K mg base := kn_of (st := s__law_number) (He.glo_ok KX G (c.t.d.fact 24 (f := .glo "_law_number") rfl)) F16 (ok_number F16 kDr (He.free_ok KX G (c.t.d.fact 36 (f := .free "min") rfl))) (fun _ _ _ _ _ _ us hl => match us, hl with | [_, _, _], _ => rfl)
  have kLD := kn_of (P := P) (w := w) (base := base) (st := s__law_deed) (He.glo_ok KX G (c.t.d.fact 25 (f := .glo "_law_deed") rfl)) F17 (ok_ldeed F17 kDr kNu k1 k2 k3 (He.free_ok KX G (c.t.d.fact 36 (f := .free "min") rfl)) (He.free_ok KX G (c.t.d.fact 35 (f := .free "max") rfl))) (fun _ _ _ _ _ _ us hl => match us, hl with | [_, _, _], _ => rfl)
  have kLW := kn_of (P := P) (w := w) (base := base) (st := s__law_words) (He.glo_ok KX G (c.t.d.fact 26 (f := .glo "_law_words") rfl)) F18 (ok_lwords F18 k1 k2 k3 (He.free_ok KX G (c.t.d.fact 39 (f := .free "sum") rfl)) (He.free_ok KX G (c.t.d.fact 31 (f := .free "int") rfl))) (fun _ _ _ _ _ _ us hl => match us, hl with | [_, _], _ => rfl)
  exact ok_law F kS kDr kNu kLD kLW kSm kK0 kK1 (He.free_ok KX G (c.t.d.fact 37 (f := .free "range") rfl)) (He.free_ok KX G (c.t.d.fact 35 (f := .free "max") rfl))
end Bm
open PySem PySem.W PySem.Calls PyProof.Rows
set_option maxRecDepth 100000 in
set_option maxHeartbeats 0 in
theorem PySem.Challenge.cw_bitmill_k02_words_of_deeds_holds : PySem.Challenge.rw_bitmill_k02_words_of_deeds.Holds := by
  w_on; o_law
  refine HandSHeadRun.head_any (r := OpenLaw.row PySem.Challenge.rw_bitmill_k02_words_of_deeds) (q := view (OpenLaw.row PySem.Challenge.rw_bitmill_k02_words_of_deeds).prog [Bm.LAWI]) (H := Bm.hk) (ob := Bm.ob) (M := 6000) (loose := Bm.looseL) (d := HandSHeadRun.topDef (OpenLaw.row PySem.Challenge.rw_bitmill_k02_words_of_deeds).prog Bm.LAWI) (kwd := []) Bm.ob_eq
    (by kernel_rfl) (fun s => by kernel_rfl) Bm.run (by kernel_rfl) (by kernel_rfl) (by kernel_rfl) (by rfl) (by first | assumption | decide +kernel) (by decide +kernel) ⟨rfl, rfl, rfl, rfl, rfl, by decide +kernel⟩ ?hw ?hc
  case hw => w_witness2
  case hc =>
    refine L2.walk_ofE (l := PySem.Challenge.rw_bitmill_k02_words_of_deeds) (n := 63) (k := 5) (x := "_law_script") (CX := L2.CX0) rfl (by decide) (by kernel_rfl) ⟨rfl, by decide, by decide⟩ ?F (fun _ _ _ _ z => z)
    intro w mg fa h Y G hmg0
    obtain ⟨K, KX, c⟩ := Y
    have hmg : mg ("law" : PySem.Str) = some (.ref fa) := by
      have e : (HandSHeadRun.topDef (OpenLaw.row PySem.Challenge.rw_bitmill_k02_words_of_deeds).prog Bm.LAWI).name = ("law" : PySem.Str) := by kernel_rfl
      rw [← e]
      exact hmg0
    obtain ⟨fd, hb, hF⟩ := Bm.facts (P := (PySem.Challenge.rw_bitmill_k02_words_of_deeds).prog) (w := w) KX G hmg c
    exact ⟨K, fd, Bm.spLaw K, KX, hb, fun H a ns hl _ hS => ⟨a, ns, rfl, hS, hl, fun _ => rfl⟩, hF⟩
