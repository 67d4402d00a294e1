import PyProof.Rows.All
import Wide.All
import OpenK.AllK
import Wide.FinOn
import PyProof.Rows.MatchSeqLen
import HandS.Base
import HandS.Call
import HandS.List
import HandS.ForMost
import HandS.Exc
import HandS.TryOnly
import HandS.Defaults
import HandS.Conv
import HandS.Strs
import HandS.IsInst
import HandS.Zip
import HandS.Deep
import HandS.TupAny
import HandS.Evl
import KE.KExcSuper
import HandS.ExcSuper
import HandS.ExcInit
import HandS.Nested
import HandS.FStr
import HandS.HeadHook1
import HandS.HeadHook2
import HandS.HeadHook3
import HandS.HeadHook4
import HandS.ExcIs
import HandS.ExcField
import KE.KStateDown
import Lean
import HandS.Codes
import HandS.Lambda
import HandS.Head0
import HandS.Head1
import HandS.Head2
import HandS.HeadEnd
import HandS.HeadWalk
import HandS.Text
import KE.BitLaws
import HandS.Walk
import KE.KTupSum
import HandS.Wide
import HandS.ExcOwn
import HandS.Style
import HandS.Dict
import HandS.WordsDict
import HandS.DictComp
import HandS.Small
import KE.GoesEnum
import HandS.Iter
import HandS.Flow
import KE.KExcIs
import KE.KBits
import PySem.Challenge.RW_bitmill_k22_whole_lean_lists_say_the_sam
set_option Elab.async false
set_option linter.all false
set_option maxRecDepth 100000
set_option maxHeartbeats 200000
namespace Bm
open PySem PySem.Spec PyProof.Rows L2
abbrev PK := Option (List (Nat × V)) → Hp → Prop
abbrev TPt := V → Hp → PK → Prop
def Bnd (X : Cx) : List (Str × Value) → List (Nat × V) → Prop := Paired fun p q => (X.N[q.1]? = some p.1 ∧ Loc X.env.scope p.1 ∧ (X.fn p.1 = true ∨ X.env.scope.names.lookup p.1 = some .local)) ∧ RelV q.2 p.2
theorem Bnd.app {X : Cx} : ∀ {a c : List (Str × Value)} {b d : List (Nat × V)}, Bnd X a b → Bnd X c d → Bnd X (a ++ c) (b ++ d)
  | [], _, [], _, _, h => h
  | _ :: _, _, _ :: _, _, .cons r t, h => .cons r (Bnd.app t h)
def PRel (X : Cx) : Option (List (Str × Value)) → Option (List (Nat × V)) → Prop
  | none, none => True
  | some b, some c => Bnd X b c
  | _, _ => False
def PtP (X : Cx) (pins : List (Addr × Obj)) (σ : L2.St) (k : PK) (r : Option (List (Str × Value))) (s' : Shared) : Prop := ∃ ro H', Inv X pins σ H' s' ∧ PRel X r ro ∧ k ro H'
structure PPt (X : Cx) (p : Pattern) (t : TPt) : Prop where
  run : ∀ (pins : List (Addr × Obj)) (s : Shared) (σ : L2.St) (H : Hp) (v : V) (u : Value) (k : PK), Inv X pins σ H s → RelV v u → t v H k →
    wpAny (model X.prog X.w) X.A (matchPattern p X.env u) (PtP X pins σ k) X.xe s
structure PPs (X : Cx) (ps : List Pattern) (t : List V → Hp → PK → Prop) : Prop where
  run : ∀ (pins : List (Addr × Obj)) (s : Shared) (σ : L2.St) (H : Hp) (vs : List V) (us : List Value) (k : PK), Inv X pins σ H s → Vals vs us → t vs H k →
    wpAny (model X.prog X.w) X.A (matchEach ps X.env us) (PtP X pins σ k) X.xe s
section
variable {X : Cx}
/-- a written text (or number): equal or not -/
def tPv (c : V) : TPt := fun v H k => scal v c = true ∧ k (if v = c then some [] else none) H
theorem pp_val {e : Expr} {c : V} {pos : Pos} (he : PE X e (tC c)) : PPt X (.MatchValue e pos) (tPv c) := by
  refine ⟨fun pins s σ H v u k I r h => ?_⟩
  obtain ⟨h1, h2⟩ := h
  refine wpAny_matchPattern_Value (thn (he.run pins s σ H (fun x H1 => x = c ∧ H1 = H) I ⟨rfl, rfl⟩) fun x s1 ⟨y, H1, I1, r1, e1, e2⟩ => ?_)
  subst e1 e2
  refine thn (op_eq pins s1 σ H1 v y u x (fun z H2 => z = .bl (decide (v = y)) ∧ H2 = H1) I1 r r1 ⟨h1, rfl, rfl⟩) fun z s2 ⟨w, H2, I2, r2, e1, e2⟩ => ?_
  subst e1 e2
  cases r2
  refine wpAny_truthy_bool ?_
  by_cases q : v = y
  · rw [decide_eq_true q]
    rw [if_pos q] at h2
    exact ⟨some [], H2, I2, .nil, h2⟩
  · rw [decide_eq_false q]
    rw [if_neg q] at h2
    exact ⟨none, H2, I2, True.intro, h2⟩
/-- a name -/
def tPn (i : Nat) : TPt := fun v H k => k (some [(i, v)]) H
theorem pp_name {i : Nat} {x : Str} {pos : Pos} (hi : X.N[i]? = some x) (hx : Loc X.env.scope x) (hf : X.fn x = true ∨ X.env.scope.names.lookup x = some .local := by first | exact .inl rfl | exact .inr rfl) : PPt X (.MatchAs none (some x) pos) (tPn i) := by
  refine ⟨fun pins s σ H v u k I r h => ?_⟩
  exact wpAny_matchPattern_Capture ⟨some [(i, v)], H, I, .cons ⟨⟨hi, hx, hf⟩, r⟩ .nil, h⟩
/-- whatever it is -/
def tPw : TPt := fun _ H k => k (some []) H
theorem pp_wild {pos : Pos} : PPt X (.MatchAs none none pos) tPw := ⟨fun pins s σ H v u k I r h => wpAny_matchPattern_Capture ⟨some [], H, I, .nil, h⟩⟩
def tPnil : List V → Hp → PK → Prop := fun vs H k => vs = [] ∧ k (some []) H
def tPcons (t : TPt) (u : List V → Hp → PK → Prop) : List V → Hp → PK → Prop := fun vs H k => ∃ v r, vs = v :: r ∧ t v H fun a H1 => match a with
  | none => k none H1
  | some b => u r H1 fun c H2 => match c with
    | none => k none H2
    | some d => k (some (b ++ d)) H2
theorem pps_nil : PPs X [] tPnil := ⟨fun pins s σ H vs us k I r h => by
  obtain ⟨e, h⟩ := h
  subst e
  cases r
  exact wpAny_matchEach_nil ⟨some [], H, I, .nil, h⟩⟩
theorem pps_cons {p : Pattern} {ps : List Pattern} {t : TPt} {u : List V → Hp → PK → Prop} (h1 : PPt X p t) (h2 : PPs X ps u) (hp : p.isStar = false := by rfl) : PPs X (p :: ps) (tPcons t u) := by
  refine ⟨fun pins s σ H vs us k I r h => ?_⟩
  obtain ⟨v, vr, e, h⟩ := h
  subst e
  cases r with
  | cons r rr =>
    refine wpAny_matchEach_cons (thn (h1.run pins s σ H v _ _ I r h) fun a s1 ⟨ro, H1, I1, rel, q⟩ => ?_) hp
    cases a with
    | none =>
      cases ro with
      | none => exact ⟨none, H1, I1, True.intro, q⟩
      | some _ => exact rel.elim
    | some bs =>
      cases ro with
      | none => exact rel.elim
      | some b =>
        refine thn (h2.run pins s1 σ H1 vr _ _ I1 rr q) fun c s2 ⟨rc, H2, I2, rel2, q2⟩ => ?_
        cases c with
        | none =>
          cases rc with
          | none => exact ⟨none, H2, I2, True.intro, q2⟩
          | some _ => exact rel2.elim
        | some cs =>
          cases rc with
          | none => exact rel2.elim
          | some d => exact ⟨some (b ++ d), H2, I2, Bnd.app rel rel2, q2⟩
/-- (p, q, ..) of a tuple -/
def tPseq (K : PySem.W.Frag) (n : Nat) (t : List V → Hp → PK → Prop) : TPt := fun v H k => ∃ a xs, v = .ref a ∧ SqT K H a xs ∧ if xs.length = n then t xs H k else k none H
theorem line63 {n : Nat} (h : n ≤ sizeLine) : (n : Int) < 2 ^ 63 := by
  have e : sizeLine = 16777216 := sizeLine_eq
  omega
theorem pp_seq {ps : List Pattern} {pos : Pos} {n : Nat} {t : List V → Hp → PK → Prop} (hc : X.calm = true) (h : PPs X ps t) (hn : ps.length = n := by rfl) (hstar : ps.findIdx? (·.isStar) = none := by rfl)
    (hwild : (ps.all fun p => p.isWildcard || (p.isStar && p.names.isEmpty)) = false := by rfl) : PPt X (.MatchSequence ps pos) (tPseq X.K n t) := by
  refine ⟨fun pins s σ H v u k I r hw => ?_⟩
  obtain ⟨a, xs, e, hq, hw⟩ := hw
  subst e hn
  cases r
  obtain ⟨its, rv, ht, hz⟩ := I.tuple hq
  have hl := rv.length
  have fit : ((its.toArray.size : Nat) : Int) < 2 ^ 63 := by
    rw [List.size_toArray, ← hl]
    exact line63 hz
  by_cases q : xs.length = ps.length
  · rw [if_pos q] at hw
    have en : its.toArray.size = ps.length := by rw [List.size_toArray, ← hl, q]
    refine matchSeq_tuple_hit ht fit en ?_ hstar hwild
    rw [← en]
    refine unpackItems_tuple (I.ok.hd hc) ht fun h' hx => ?_
    have I1 := I.tok (s.toks + 1 + 1)
    have I2 := I1.kept (h' := h') (t' := s.toks + 1 + 1) fun b o e => hx b o (Nat.ne_of_lt (Heap.lt_size e)) e
    exact h.run pins _ σ H xs _ k I2 (by simpa using rv) hw
  · rw [if_neg q] at hw
    refine matchSeq_tuple_miss ht fit (fun z => q ?_) ⟨none, H, I.tok _, True.intro, hw⟩ hstar hwild
    rw [← z, List.size_toArray, hl]
/-- either of two or more -/
def tPfirst (t : TPt) (u : TPt) : TPt := fun v H k => t v H fun a H1 => match a with
  | some b => k (some b) H1
  | none => u v H1 k
structure PPf (X : Cx) (ps : List Pattern) (t : TPt) : Prop where
  run : ∀ (pins : List (Addr × Obj)) (s : Shared) (σ : L2.St) (H : Hp) (v : V) (u : Value) (k : PK), Inv X pins σ H s → RelV v u → t v H k →
    wpAny (model X.prog X.w) X.A (matchFirst ps X.env u) (PtP X pins σ k) X.xe s
theorem ppf_nil : PPf X [] (fun _ H k => k none H) := ⟨fun pins s σ H v u k I r h => wpAny_matchFirst_nil ⟨none, H, I, True.intro, h⟩⟩
theorem ppf_cons {p : Pattern} {ps : List Pattern} {t u : TPt} (h1 : PPt X p t) (h2 : PPf X ps u) : PPf X (p :: ps) (tPfirst t u) := by
  refine ⟨fun pins s σ H v w k I r h => ?_⟩
  refine wpAny_matchFirst_cons (thn (h1.run pins s σ H v w _ I r h) fun a s1 ⟨ro, H1, I1, rel, q⟩ => ?_)
  cases a with
  | none =>
    cases ro with
    | none => exact h2.run pins s1 σ H1 v w k I1 r q
    | some _ => exact rel.elim
  | some bs =>
    cases ro with
    | none => exact rel.elim
    | some b => exact ⟨some b, H1, I1, rel, q⟩
/-- texts in a row, with no names: "jump" | "call" -/
def tPor (t : TPt) : TPt := fun v H k => t v H fun a H1 => match a with
  | some _ => k (some []) H1
  | none => k none H1
theorem pp_or {ps : List Pattern} {pos : Pos} {t : TPt} (h : PPf X ps t) (hn : namesOfAll (ps.take 1) = [] := by rfl) : PPt X (.MatchOr ps pos) (tPor t) := by
  refine ⟨fun pins s σ H v u k I r hw => ?_⟩
  refine wpAny_matchPattern_Or (thn (h.run pins s σ H v u _ I r hw) fun a s1 ⟨ro, H1, I1, rel, q⟩ => ?_)
  cases a with
  | none =>
    cases ro with
    | none => exact ⟨none, H1, I1, True.intro, q⟩
    | some _ => exact rel.elim
  | some bs =>
    cases ro with
    | none => exact rel.elim
    | some b =>
      show PtP X pins σ k (some ((namesOfAll (ps.take 1)).filterMap fun n => (bs.lookup n).map (n, ·))) s1
      rw [hn]
      exact ⟨some [], H1, I1, .nil, q⟩
/-- the slots that the names of a pattern get, one after another -/
def setAll : List (Nat × V) → L2.St → L2.St
  | [], σ => σ
  | (i, v) :: r, σ => setAll r (σ.set i (some v))
theorem bind_all {M : Model} {E : Value → Shared → Prop} {pins : List (Addr × Obj)} {H : Hp} {A : Around} (hN : X.N.Nodup) {bs : List (Str × Value)} {cs : List (Nat × V)} (B : Bnd X bs cs) : ∀ {σ : L2.St} {s : Shared} {Q : Unit → Shared → Prop}, Inv X pins σ H s →
    (∀ s', Inv X pins (setAll cs σ) H s' → Q () s') → wpAny M A (assignInOrder (bs.map fun (n, _) => bindName X.env n) (bs.map (·.2))) Q E s := by
  induction bs generalizing cs with
  | nil =>
    intro σ s Q I h
    cases B
    exact wpAny_assignInOrder_none (h s I)
  | cons p bs ih =>
    intro σ s Q I h
    cases cs with
    | nil => cases B
    | cons q cs =>
      have B1 : ((X.N[q.1]? = some p.1 ∧ Loc X.env.scope p.1 ∧ (X.fn p.1 = true ∨ X.env.scope.names.lookup p.1 = some .local)) ∧ RelV q.2 p.2) ∧ Bnd X bs cs := by
        cases B with
        | cons r t => exact ⟨r, t⟩
      obtain ⟨⟨⟨hi, hx, hf⟩, r⟩, t⟩ := B1
      refine wpAny_assignInOrder_more (wpAny_bindName (store_ok I hN hi hx r (fun s' I' => ?_) hf))
      exact ih t I' h
abbrev TCs := V → TS
structure PCs (X : Cx) (cs : List MatchCase) (t : TCs) : Prop where
  run : ∀ (first : Bool) (pins : List (Addr × Obj)) (s : Shared) (σ : L2.St) (H : Hp) (v : V) (u : Value) (D : Ends), Inv X pins σ H s → RelV v u → t v D σ H →
    wpAny (model X.prog X.w) X.A (matchCases cs X.env u first) (SP X pins D) X.xe s
def tCsNil : TCs := fun _ D σ H => D.nx σ H
theorem pcs_nil : PCs X [] tCsNil := ⟨fun first pins s σ H v u D I r h => wpAny_matchCases_nil ⟨σ, H, I, h⟩⟩
def tCs (p : TPt) (b : TS) (t : TCs) : TCs := fun v D σ H => p v H fun a H1 => match a with
  | none => t v D σ H1
  | some cs => b D (setAll cs σ) H1
theorem pcs_cons {p : Pattern} {body : List Stmt} {rest : List MatchCase} {tp : TPt} {b : TS} {t : TCs} (hN : X.N.Nodup) (hp : PPt X p tp) (hb : PSs X body b) (hr : PCs X rest t) : PCs X (⟨p, none, body⟩ :: rest) (tCs tp b t) := by
  refine ⟨fun first pins s σ H v u D I r h => ?_⟩
  refine wpAny_matchCases_cons (thn (hp.run pins s σ H v u _ I r h) fun a s1 ⟨ro, H1, I1, rel, q⟩ => ?_)
  cases a with
  | none =>
    cases ro with
    | none => exact hr.run false pins s1 σ H1 v u D I1 r q
    | some _ => exact rel.elim
  | some bs =>
    cases ro with
    | none => exact rel.elim
    | some cs => exact bind_all hN rel I1 fun s2 I2 => hb.run pins s2 _ H1 D I2 q
def tMatch (te : TE) (t : TCs) : TS := fun D σ H => te σ H fun v H1 => t v D σ H1
theorem ps_match {e : Expr} {cs : List MatchCase} {pos : Pos} {te : TE} {t : TCs} (he : PE X e te) (h : PCs X cs t) : PS X (.Match e cs pos) (tMatch te t) := by
  refine ⟨fun pins s σ H D I hw => ?_⟩
  exact wpAny_Match (thn (he.run pins s σ H _ I hw) fun u s1 ⟨v, H1, I1, r1, q1⟩ => h.run true pins s1 σ H1 v u D I1 r1 q1)
end
end Bm
set_option maxHeartbeats 400000
namespace Bm
open PySem PySem.Spec PyProof.Rows L2
/-! a def known by its name, the values that stand for what a call leaves out -/
structure Kn (P : Program) (w : World) (K : PySem.W.Frag) (mg : Str → Option Value) (base : Heap) (CX : CXT) (k : Nat) (x : Str) (ps : List Str) (dvs : List V) (sp : Sp) : Prop where
  ex : ∃ (f : Addr) (fd : FuncData) (ds : List Value), mg x = some (.ref f) ∧ PySem.W.keepIn K (.ref f) = true ∧ FnOk P w K mg base CX k f fd ps sp ∧ Binds K fd ps ds ∧ Vals dvs ds
section
variable {X : Cx} {CX : CXT} {k j : Nat} {x : Str} {ps : List Str} {dvs : List V} {sp : Sp} {E : XK} {p pos : Pos} {e : Expr} {es : List Expr} {t : TA}
theorem pk (n : Kn X.prog X.w X.K X.mg X.base CX k x ps dvs sp) (hr : Room j X.A) (hj : k ≤ j) (hg : Gl X x) (hx : Passes CX X E) (ha : PA X (e :: es) t) (hdb : (x == ("__debug__" : Str)) = false := by decide)
    (star1 : starEach (e :: es) X.env = (false, eval e X.env) :: starEach es X.env := by rfl) (star2 : (backTo pos (starEach es X.env)).any (·.1) = false := by rfl) : PE X (.Call (.Name x p) (e :: es) [] pos) (tCall sp dvs E t) := by
  obtain ⟨f, fd, ds, h1, h2, h3, h4, h5⟩ := n.ex
  exact pe_call h3 (hr.mono hj) hg h1 h2 h4 h5 hx ha (by first | exact hdb | exact star1 | exact star2) (by first | exact hdb | exact star1 | exact star2) (by first | exact hdb | exact star1 | exact star2)
theorem pk0 (n : Kn X.prog X.w X.K X.mg X.base CX k x ps dvs sp) (hr : Room j X.A) (hj : k ≤ j) (hg : Gl X x) (hx : Passes CX X E) (hdb : (x == ("__debug__" : Str)) = false := by decide) :
    PE X (.Call (.Name x p) [] [] pos) (tCall sp dvs E tNil) := by
  obtain ⟨f, fd, ds, h1, h2, h3, h4, h5⟩ := n.ex
  exact pe_call0 h3 (hr.mono hj) hg h1 h2 h4 h5 hx hdb
end
theorem Same.tup {K : PySem.W.Frag} {H H' : Hp} {a : Addr} {xs : List V} (e : Same H H') (h : SqT K H a xs) : SqT K H' a xs := by
  rcases h with (h | ⟨o, h⟩) | h
  · exact .inl (.inl (e _ _ h))
  · exact .inl (.inr ⟨o, e _ _ h⟩)
  · exact .inr h
theorem Same.add {H : Hp} {p : Addr} {o : HO} (h : H p = none) : Same H (upd H p o) := fun b u q => by
  rw [upd_ne (ne_of_none q h)]
  exact q
/-- a thing just laid, told by what stays -/
theorem laid {o : HO} {H : Hp} {Q : VK} (h : ∀ p H1, H p = none → Same H H1 → H1 p = some o → Q (.ref p) H1) : ∀ p, H p = none → Q (.ref p) (upd H p o) := fun p hp => h p _ hp (Same.add hp) upd_same
theorem line5 {n : Nat} (h : n ≤ 100000) : n ≤ sizeLine := Nat.le_trans h (by decide)
end Bm
set_option maxHeartbeats 1000000
namespace Bm
open PySem PySem.Spec PyProof.Rows L2
section
variable {X : Cx} {pins : List (Addr × Obj)} {σ : L2.St} {H : Hp} {s : Shared} {a C D f cc cda : Addr}
/-- a thing that is laid and not told of in H: it is pinned -/
theorem pin_new {h2 : Heap} {u : Addr} {o : Obj} {t' : Nat} (I : Inv X pins σ H s) (hu : s.heap.objs.size ≤ u) (e : h2.get? u = some o) (k : ∀ b v, s.heap.get? b = some v → h2.get? b = some v) (nc : ∀ v, o.data ≠ .cell v) :
    Inv X ((u, o) :: pins) σ H { s with heap := h2, toks := t' } := by
  have I1 : Inv X pins σ H { s with heap := h2, toks := t' } := I.kept k
  obtain ⟨f0, f1, f2, _⟩ := I.fpOk hu (I.hok.fresh hu)
  refine I1.pins_of fun p hp => ?_
  rcases List.mem_cons.mp hp with rfl | hp
  · exact ⟨e, f0, f1, f2, nc⟩
  · exact I1.pin p (List.mem_append_right _ hp)
theorem unpin {p : Addr × Obj} (I : Inv X (p :: pins) σ H s) : Inv X pins σ H s := I.pins_of fun q hq => I.pin q (List.mem_append_right _ (List.mem_cons_of_mem _ hq))
/-- the wrapped __init__ of the built-in class, called -/
theorem call_mw {u : Addr} {rest : List Value} {Q : Value → Shared → Prop} {A : Around} {E : Value → Shared → Prop} (T : OexC X.K C) (I : Inv X pins σ H s) (e : H a = some (exo a C none)) (hu : s.heap.get? u = some (PySem.W.kxs_mw "ValueError.__init__" a)) (hl : rest.length ≤ sizeLine)
    (h : ∀ s', Inv X pins σ H s' → Q .none s') : wpAny (model X.prog X.w) A (call (.ref u) rest) Q E s := by
  obtain ⟨nm, q, N, bs, bm, sn, sub, ab, col, dd, k0, k1, k2, k3, k5, hC, hbm⟩ := T.cls
  obtain ⟨t1, ho⟩ := exo_at I.hok e
  have hC' := I.kIn _ _ hC
  have fin : ∀ h2 t2, (∀ b o, b ≠ a → s.heap.get? b = some o → h2.get? b = some o) → h2.get? a = some ({ cls := .ref C, dict := none, data := .fields #[.ref t2, .none, .none, .none, .bool false, .none] } : Obj) → Q .none { s with heap := h2 } := fun h2 t2 k hx => by
    have J := I.write (t' := s.toks) (x := a) (e := a) (o := exo a C none) (by rw [e]; exact True.intro) (.inl rfl) k ⟨_, hx⟩ (exo_ok hx)
    have eu : upd H a (exo a C none) = H := by
      funext b
      by_cases hb : b = a
      · rw [hb, upd_same, e]
      · rw [upd_ne hb]
    rw [eu] at J
    exact h _ J
  obtain ⟨hp, g, d, t, os⟩ := s
  refine wpAny_call (codeAny_of_tree ?_)
  show wpAny _ A.in1 (callAny (.ref u) ⟨rest, []⟩) _ _ _
  simp only [callAny]
  refine wpAny_bind (wpAny_load hu ?_)
  simp only [PySem.W.kxs_mw, show (Value.type "method-wrapper" == Value.type "method" || Value.type "method-wrapper" == Value.type "builtin_function_or_method" || Value.type "method-wrapper" == Value.type "method-wrapper") = true by decide, if_true]
  refine PySem.W.KFB.if_so (by decide) ?_
  refine wpAny_bind (PySem.W.check_bound_init F.excBase_ValueError.toExcCallFacts hC' ho rfl ?_)
  refine wpAny_bind (wpAny_pure (wpAny_pure ?_))
  refine ⟨plainId_quiet F.excBase_ValueError.init.plain _, codeAny_builtin F.excBase_ValueError.initEntry ?_⟩
  exact PySem.W.exc_init_tree (cls := .ref C) (t0 := t1) (dv := none) (c2 := .none) (c3 := .none) (b4 := .bool false) ho hl fun h2 k e2 _ => fin h2 _ k e2
end
/-- what the written part says of a method that calls super -/
structure SupF (P : Program) (K : PySem.W.Frag) (C f cell cda : Addr) (params : Arguments) (fd : FuncData) : Prop where
  lk : ∃ oc od osl, K.lookup f = some ⟨oc, od, .func fd, osl⟩
  pa : fd.params = params
  file : ∃ (oc : Value) (od : Option Addr) (vs : Array Value) (sl : Array (Option Value)) (fl : Str) (tf : Tok), K.lookup cda = some ⟨oc, od, .fields vs, sl⟩ ∧ vs[2]? = some (.str fl tf) ∧ ((P.main.file : Str) == fl) = true
  cell : ∃ (oc : Value) (od : Option Addr) (sl : Array (Option Value)), K.lookup cell = some ⟨oc, od, .cell (some (.ref C)), sl⟩
  cls : (PySem.W.clsIn K C).isSome = true
  self : PySem.W.mroIn K C (.ref C) = some true
  along : PySem.W.ks_superIn K C C "__init__" = some (some (.builtin "ValueError.__init__"))
  sub : PySem.W.subIn K (.ref C) (.type "ValueError") = some true
  stat : PySem.W.nsIn K cStatics "thirdparty.any" = some none
  top : (P.main.scope.names.lookup ("super" : Str)).isSome = false
section
variable {X : Cx} {pins : List (Addr × Obj)} {σ : L2.St} {H : Hp} {s : Shared} {a C f cc cda : Addr} {params : Arguments} {fd : FuncData}
/-- super() -/
theorem super_node {body : List Stmt} {p0 p1 : Pos} {attr : Str} {whole : Sem Value} {ar : Arg} {Q : Value → Shared → Prop} (F : SupF X.prog X.K C f cc cda params fd) (I : Inv X pins σ H s) (T : OexC X.K C) (ha : H a = some (exo a C none))
    (hfu : X.env.func = some f) (hco : X.env.code = .ref cda) (hce : X.env.cells.lookup ("__class__" : Str) = some cc) (hp : (params.posonlyargs ++ params.args).head? = some ar) (i : Nat) (hN : X.N[i]? = some ar.arg) (hσ : σ[i]? = some (some (.ref a)))
    (hat : (attr == ("__class__" : Str)) = false) (hks : X.env.kindOf ("super" : Str) = some .globalImplicit) (hkc : X.env.kindOf ("__class__" : Str) = some .free) (hka : X.env.kindOf ar.arg = some .local) (hm : X.mg "super" = none)
    (h : ∀ so s', Inv X ((so, PySem.W.ks_superObj C a C) :: pins) σ H s' → Q (.ref so) s') :
    _root_.PySem.wpAt (model X.prog X.w) X.A (.func body X.env) (attributeBase (.Call (.Name "super" p0) [] [] p1) attr X.env whole) Q X.xe s := by
  obtain ⟨oc1, od1, osl1, lk⟩ := F.lk
  obtain ⟨oc2, od2, vs2, sl2, fl, tf, hcode, hvs, hfile⟩ := F.file
  obtain ⟨oc3, od3, sl3, hcell⟩ := F.cell
  obtain ⟨cd, hcd⟩ := Option.isSome_iff_exists.mp F.cls
  have KX := I.kIn
  obtain ⟨oD, hD1, hD2⟩ : ∃ oD, s.heap.get? C = some oD ∧ oD.data = .cls cd := by
    unfold PySem.W.clsIn at hcd
    split at hcd
    · rename_i c d cd' sl ho
      cases hcd
      exact ⟨_, KX _ _ ho, rfl⟩
    · cases hcd
  obtain ⟨t1, ho⟩ := exo_at I.hok ha
  have hk := I.ok.kind
  refine ks_wpAt_super_base hks hkc hat hfu (KX _ _ lk) rfl (by rw [F.pa]; exact hp) hco (KX _ _ hcode) rfl hvs hfile F.top ?_
  obtain ⟨mb, b1, b2⟩ := I.mod.blt
  refine PySem.W.ks_loadName_global hk hks (Calls.loadGlobal_builtin (by rw [I.ok.glob]; exact I.mod.glob.keeps I.bk) hm (by rw [I.ok.blt]; exact b1.keeps I.bk) ((b2 _ (by decide +kernel)).trans PyProof.Rows.Boot.«super») ⟨rfl, ?_⟩)
  refine wpAny_loadName_free hk hkc hce ⟨_, KX _ _ hcell, rfl⟩ ?_
  obtain ⟨m, hn, hl⟩ := I.loc
  obtain ⟨v, rv, lv⟩ := hl i ar.arg (.ref a) hN hσ (.inl hka)
  obtain rfl : v = Value.ref a := rv
  have hv : m ar.arg = some (.ref a) := by
    rcases lv with ⟨_, z⟩ | ⟨z, _⟩
    · exact z
    · rcases z with z | z <;> rw [hka] at z <;> cases z
  refine wpAny_loadName_local hk hka hn hv ?_
  obtain ⟨hh, g, d, t, os⟩ := s
  refine ks_wpAny_isType_cls hD1 hD2 ⟨rfl, ?_⟩
  refine ks_wpAny_call_super hD1 hD2 ho rfl (fun c e => by cases e) (PySem.W.looks_mroIn KX F.self) (fun h2 e k => ?_)
  exact h _ _ (pin_new (t' := t) I (Nat.le_refl _) e k fun v z => by cases z)
/-- its __init__, looked up -/
theorem super_meth {so : Addr} {pl : Sem Bool} {Q : Value × List Value → Shared → Prop} {A : Around} {E : Value → Shared → Prop} (F : SupF X.prog X.K C f cc cda params fd) (I : Inv X ((so, PySem.W.ks_superObj C a C) :: pins) σ H s) (ha : H a = some (exo a C none))
    (h : ∀ u s', Inv X ((u, PySem.W.kxs_mw "ValueError.__init__" a) :: pins) σ H s' → Q (.ref u, []) s') : wpAny (model X.prog X.w) A (getMethod (.ref so) "__init__" pl) Q E s := by
  have KX := I.kIn
  obtain ⟨cd, hcd⟩ := Option.isSome_iff_exists.mp F.cls
  have al := F.along
  unfold PySem.W.ks_superIn at al
  rw [hcd] at al
  obtain ⟨t1, ho⟩ := exo_at I.hok ha
  have hso := (I.pin (so, PySem.W.ks_superObj C a C) (List.mem_append_right _ List.mem_cons_self)).1
  have IA : PySem.W.InstAt s.heap a ({ cls := .ref C, dict := none, data := .fields #[.ref t1, .none, .none, .none, .bool false, .none] } : Obj) C none := ⟨ho, rfl, rfl, trivial⟩
  have hI : PySem.W.Looks (model X.prog X.w) s.heap (isInstance (.ref a) (.type "ValueError")) true := IA.type.andThen (PySem.W.looks_subIn KX F.sub)
  have I0 := unpin I
  obtain ⟨hh, g, d, t, os⟩ := s
  refine PySem.W.kxs_getMethod PySem.W.kxs_ValueError hso (PySem.W.looks_opaque KX F.stat) (l₀ := cd.mro) ?_ rfl KX al hI (PySem.W.ks_ne KX IA hcd) (by decide +kernel) ?_
  · exact fun A Q E s k q => wpAny_bind ((PySem.W.looks_clsIn KX hcd) A _ E s k (wpAny_pure q))
  · exact h _ _ (pin_new (t' := t + 1) I0 (Nat.le_refl _) (Heap.get?_push_at rfl rfl) (fun b o e => Heap.get?_push_of_some _ e) fun v z => by cases z)
/-- super().__init__(e), then the rest -/
theorem super_init {body rest : List Stmt} {p0 p1 p2 p3 p4 : Pos} {e : Expr} {te : TE} {tr : TS} {ar : Arg} {D : Ends} {pl : Sem Bool} (F : SupF X.prog X.K C f cc cda params fd) (I : Inv X [] σ H s) (T : OexC X.K C) (ha : H a = some (exo a C none))
    (hfu : X.env.func = some f) (hco : X.env.code = .ref cda) (hce : X.env.cells.lookup ("__class__" : Str) = some cc) (hp : (params.posonlyargs ++ params.args).head? = some ar) (i : Nat) (hN : X.N[i]? = some ar.arg) (hσ : σ[i]? = some (some (.ref a)))
    (hks : X.env.kindOf ("super" : Str) = some .globalImplicit) (hkc : X.env.kindOf ("__class__" : Str) = some .free) (hka : X.env.kindOf ar.arg = some .local) (hm : X.mg "super" = none) (he : PE X e te) (hr : PSs X rest tr)
    (hq : te σ H fun x H1 => [x].length ≤ 1 ∧ H1 a = some (exo a C none) ∧ tr D σ H1)
    (hev : eval (.Call (.Attribute (.Call (.Name "super" p0) [] [] p1) "__init__" p2) [e] [] p3) X.env = (do
      let ov ← attributeBase (.Call (.Name "super" p0) [] [] p1) "__init__" X.env (eval (.Call (.Name "super" p0) [] [] p1) X.env)
      standAt p2.atName
      let (f, first) ← holding [ov] (getMethod ov "__init__" pl)
      callWith p3 f first (backTo p3 (starEach [e] X.env)) []) := by rfl)
    (hi : interactive X.env = false := by rfl) (hs : swapsWith (.Call (.Attribute (.Call (.Name "super" p0) [] [] p1) "__init__" p2) [e] [] p3) none p4.line X.env = pure false := by rfl)
    (hse : starEach [e] X.env = (false, eval e X.env) :: starEach [] X.env := by rfl) (hpl : (backTo p3 (starEach [] X.env)).any (·.1) = false := by rfl) :
    _root_.PySem.wpAt (model X.prog X.w) X.A (.func body X.env) (execs (.Expr (.Call (.Attribute (.Call (.Name "super" p0) [] [] p1) "__init__" p2) [e] [] p3) p4 :: rest) X.env) (SP X [] D) X.xe s := by
  refine ks_wpAt_execs_cons (ks_wpAt_Expr_any (ks_wpAt_MethodCall (super_node F I T ha hfu hco hce hp i hN hσ (by decide +kernel) hks hkc hka hm fun so s1 I1 => super_meth F I1 ha fun u s2 I2 => ?_) hev) hi hs)
  have hPA : PA X [e] (tCons te tNil) := pa_cons he pa_nil hse
  rw [hse]
  refine PySem.W.kxs_callWith (i := "ValueError.__init__") (x := a) (by show (false || (backTo p3 (starEach [] X.env)).any (·.1)) = false; rw [hpl]; rfl) (Calls.evalArgs_plain ?_)
  have run := hPA.run p3 [(u, PySem.W.kxs_mw "ValueError.__init__" a)] s2 σ H (fun vs H1 => vs.length ≤ 1 ∧ H1 a = some (exo a C none) ∧ tr D σ H1) I2 hq
  rw [hse] at run
  refine thn run fun us s3 hh => ?_
  obtain ⟨vs, H1, I3, r1, hl1, ha1, q1⟩ := hh
  have hu := (I3.pin (u, PySem.W.kxs_mw "ValueError.__init__" a) (List.mem_append_right _ List.mem_cons_self)).1
  exact ⟨hu, call_mw T (unpin I3) ha1 hu (show us.length ≤ sizeLine by rw [← r1.length]; exact line5 (Nat.le_trans hl1 (by decide))) fun s4 I4 => wpAt_of_wpAny (hr.run [] s4 σ H1 D I4 q1)⟩
end
end Bm
set_option maxHeartbeats 1000000
namespace Bm
open PySem PySem.Spec PyProof.Rows L2
section
variable {P : Program} {w : World} {K : PySem.W.Frag} {mg : Str → Option Value} {base : Heap} {CX : CXT} {N ps : List Str} {name qual : Str} {params : Arguments} {scope : Scope} {dV kV doc pm ct : Value} {an : Option Addr} {C f cell cda : Addr} {k : Nat} {sp : Sp}
  {rest : List Stmt} {p0 p1 p2 p3 p4 : Pos} {e : Expr} {ar : Arg}
/-- the words of the method, for a frame's context -/
abbrev MF (name qual : Str) (params : Arguments) (body : List Stmt) (scope : Scope) (cell cda : Addr) : NdefX.NF := ⟨name, qual, params, body, scope, [("__class__", cell)], cda⟩
abbrev superSt (p0 p1 p2 p3 p4 : Pos) (e : Expr) : Stmt := .Expr (.Call (.Attribute (.Call (.Name "super" p0) [] [] p1) "__init__" p2) [e] [] p3) p4
/-- THE RULE: an error's __init__ that calls super first -/
theorem init_fn (F : SupF P K C f cell cda params (PySem.W.fnX name qual params (superSt p0 p1 p2 p3 p4 e :: rest) scope [("__class__", cell)] dV kV doc pm an (.ref cda) ct)) (T : OexC K C) (hcd : PySem.W.codeIn K (.ref cda) qual = true) (S : NdefX.NScope N ps ["__class__"] scope)
    (hpa : (params.posonlyargs ++ params.args).head? = some ar) (hN : N[0]? = some ar.arg) (hks : scope.names.lookup ("super" : Str) = some .globalImplicit) (hka : scope.names.lookup ar.arg = some .local) (hm : mg "super" = none) (hint : ∀ L : Addr, interactive (NdefX.envF (MF name qual params (superSt p0 p1 p2 p3 p4 e :: rest) scope cell cda) f L) = false) (len : ∀ vs H Q E, sp vs H Q E → vs.length = ps.length)
    (hbody : ∀ (A : Around) (outer : List Env) (s : Shared) (H : Hp) (vs : List V) (Q : VK) (E : XK), sp vs H Q E → ∃ (te : TE) (tr : TS) (a : Addr) (pl : Sem Bool), vs[0]? = some (.ref a) ∧ H a = some (exo a C none) ∧
      PE (NdefX.ncx CX P w K mg base N (MF name qual params (superSt p0 p1 p2 p3 p4 e :: rest) scope cell cda) f A outer s H E) e te ∧ PSs (NdefX.ncx CX P w K mg base N (MF name qual params (superSt p0 p1 p2 p3 p4 e :: rest) scope cell cda) f A outer s H E) rest tr ∧
      eval (.Call (.Attribute (.Call (.Name "super" p0) [] [] p1) "__init__" p2) [e] [] p3) (NdefX.envF (MF name qual params (superSt p0 p1 p2 p3 p4 e :: rest) scope cell cda) f s.heap.objs.size) = (do
        let ov ← attributeBase (.Call (.Name "super" p0) [] [] p1) "__init__" (NdefX.envF (MF name qual params (superSt p0 p1 p2 p3 p4 e :: rest) scope cell cda) f s.heap.objs.size) (eval (.Call (.Name "super" p0) [] [] p1) (NdefX.envF (MF name qual params (superSt p0 p1 p2 p3 p4 e :: rest) scope cell cda) f s.heap.objs.size))
        standAt p2.atName
        let (f', first) ← holding [ov] (getMethod ov "__init__" pl)
        callWith p3 f' first (backTo p3 (starEach [e] (NdefX.envF (MF name qual params (superSt p0 p1 p2 p3 p4 e :: rest) scope cell cda) f s.heap.objs.size))) []) ∧
      swapsWith (.Call (.Attribute (.Call (.Name "super" p0) [] [] p1) "__init__" p2) [e] [] p3) none p4.line (NdefX.envF (MF name qual params (superSt p0 p1 p2 p3 p4 e :: rest) scope cell cda) f s.heap.objs.size) = pure false ∧
      starEach [e] (NdefX.envF (MF name qual params (superSt p0 p1 p2 p3 p4 e :: rest) scope cell cda) f s.heap.objs.size) = (false, eval e (NdefX.envF (MF name qual params (superSt p0 p1 p2 p3 p4 e :: rest) scope cell cda) f s.heap.objs.size)) :: starEach [] (NdefX.envF (MF name qual params (superSt p0 p1 p2 p3 p4 e :: rest) scope cell cda) f s.heap.objs.size) ∧
      te (NdefX.startF N vs [some (.ref C)]) H (fun x H1 => [x].length ≤ 1 ∧ H1 a = some (exo a C none) ∧ tr { nx := fun _ H2 => Q .non H2, rt := Q } (NdefX.startF N vs [some (.ref C)]) H1)) :
    FnOk P w K mg base CX (k + 1) f (PySem.W.fnX name qual params (superSt p0 p1 p2 p3 p4 e :: rest) scope [("__class__", cell)] dV kV doc pm an (.ref cda) ct) ps sp := by
  refine ⟨len, fun A outer s H args us vs Q E hr e0 hb r hsp => ?_⟩
  have hl := len _ _ _ _ hsp
  have KX : K.In s.heap := e0.mod.kin.keeps fun b o z => (e0.bs b o z).1
  have lim : s.heap.NoLimit := e0.mod.nolimit.keeps fun b o z => (e0.bs b o z).1
  obtain ⟨oc1, od1, osl1, lk⟩ := F.lk
  obtain ⟨oc3, od3, sl3, hcell⟩ := F.cell
  obtain ⟨te, tr, a, pl, hv0, ha, he, hr', hev, hsw, hse, hq⟩ := hbody A outer s H vs Q E hsp
  have hcl : H cell = none ∧ s.heap.IsCell cell (some (.ref C)) := ⟨(e0.bs _ _ (e0.mod.kin _ _ hcell)).2, _, KX _ _ hcell, rfl⟩
  have CA : NdefX.CellsAt [("__class__", cell)] ["__class__"] [some (.ref C)] s.heap H := by
    have look : ∀ y c, ([("__class__", cell)] : List (Str × Addr)).lookup y = some c → y = "__class__" ∧ c = cell := fun y c z => by
      rw [List.lookup_cons] at z
      by_cases q : y = "__class__"
      · subst q
        rw [beq_self_eq_true] at z
        exact ⟨rfl, (Option.some.inj z).symm⟩
      · rw [beq_eq_false_iff_ne.mpr q] at z
        cases z
    refine ⟨rfl, fun y c z => ?_, fun x y c z1 z2 => by rw [(look _ _ z1).1, (look _ _ z2).1], fun i y z => ?_⟩
    · rw [(look _ _ z).2]
      exact ⟨hcl.1, _, hcl.2⟩
    · cases i with
      | succ i => cases z
      | zero =>
        cases z
        exact ⟨cell, rfl, fun v z => by
          have z1 : some (some (V.ref C)) = some (some v) := z
          cases z1
          exact ⟨.ref C, rfl, hcl.2⟩⟩
  refine ks_codeAny_call_defAt (binds := ps.zip us) hr.depth (KX _ _ lk) rfl lim (PySem.W.codeRec_of KX hcd) rfl hb S.nocell (fun ⟨n, _⟩ hy => S.par n (List.of_mem_zip hy).1) (fun h₁ hns kp => ?_) S.co S.gen S.kind
  have I : L2.Inv (NdefX.ncx CX P w K mg base N (MF name qual params (superSt p0 p1 p2 p3 p4 e :: rest) scope cell cda) f A outer s H E) [] (NdefX.startF N vs [some (.ref C)]) H { s with heap := h₁, toks := s.toks + (ps.zip us).length } :=
    NdefX.inv_startN (F := MF name qual params (superSt p0 p1 p2 p3 p4 e :: rest) scope cell cda) S hr.hd e0 hl r CA hns kp
  have hσ : (NdefX.startF N vs [some (.ref C)])[0]? = some (some (.ref a)) := by
    unfold NdefX.startF
    cases vs with
    | nil => cases hv0
    | cons v vr =>
      cases hv0
      rfl
  have run := super_init (X := NdefX.ncx CX P w K mg base N (MF name qual params (superSt p0 p1 p2 p3 p4 e :: rest) scope cell cda) f A outer s H E) (body := superSt p0 p1 p2 p3 p4 e :: rest) (rest := rest) (p4 := p4) (pl := pl) F I T ha rfl rfl rfl hpa 0 hN hσ hks (S.frk _ (List.mem_singleton.mpr rfl)) hka hm he hr' hq hev (hint _) hsw hse rfl
  refine ks_wpAt_mono run (fun fl s' hs => ?_) fun e' s' hs => hs
  have fin : ∀ {σ' : L2.St} {H' : Hp} {v : V} {u : Value}, L2.Inv (NdefX.ncx CX P w K mg base N (MF name qual params (superSt p0 p1 p2 p3 p4 e :: rest) scope cell cda) f A outer s H E) [] σ' H' s' → L2.RelV v u → Q v H' → CE outer P w H s Q u s' :=
    fun {σ' H' v u} J rv q => ⟨v, H', J.os, J.bare, J.base, J.hok, rv, q⟩
  cases fl with
  | ret u =>
    obtain ⟨v, σ', H', J, rv, q⟩ := hs
    exact fin J rv q
  | next =>
    obtain ⟨σ', H', J, q⟩ := hs
    exact fin (v := V.non) (u := Value.none) J rfl q
  | brk =>
    obtain ⟨_, _, _, q⟩ := hs
    exact False.elim q
  | cont =>
    obtain ⟨_, _, _, q⟩ := hs
    exact False.elim q
/-- the same, of a body that is such a one -/
theorem init_fn2 {body : List Stmt} (hbd : body = superSt p0 p1 p2 p3 p4 e :: rest) (F : SupF P K C f cell cda params (PySem.W.fnX name qual params body scope [("__class__", cell)] dV kV doc pm an (.ref cda) ct)) (T : OexC K C) (hcd : PySem.W.codeIn K (.ref cda) qual = true) (S : NdefX.NScope N ps ["__class__"] scope)
    (hpa : (params.posonlyargs ++ params.args).head? = some ar) (hN : N[0]? = some ar.arg) (hks : scope.names.lookup ("super" : Str) = some .globalImplicit) (hka : scope.names.lookup ar.arg = some .local) (hm : mg "super" = none) (hint : ∀ L : Addr, interactive (NdefX.envF (MF name qual params body scope cell cda) f L) = false)
    (len : ∀ vs H Q E, sp vs H Q E → vs.length = ps.length)
    (hbody : ∀ (A : Around) (outer : List Env) (s : Shared) (H : Hp) (vs : List V) (Q : VK) (E : XK), sp vs H Q E → ∃ (te : TE) (tr : TS) (a : Addr) (pl : Sem Bool), vs[0]? = some (.ref a) ∧ H a = some (exo a C none) ∧
      PE (NdefX.ncx CX P w K mg base N (MF name qual params body scope cell cda) f A outer s H E) e te ∧ PSs (NdefX.ncx CX P w K mg base N (MF name qual params body scope cell cda) f A outer s H E) rest tr ∧
      eval (.Call (.Attribute (.Call (.Name "super" p0) [] [] p1) "__init__" p2) [e] [] p3) (NdefX.envF (MF name qual params body scope cell cda) f s.heap.objs.size) = (do
        let ov ← attributeBase (.Call (.Name "super" p0) [] [] p1) "__init__" (NdefX.envF (MF name qual params body scope cell cda) f s.heap.objs.size) (eval (.Call (.Name "super" p0) [] [] p1) (NdefX.envF (MF name qual params body scope cell cda) f s.heap.objs.size))
        standAt p2.atName
        let (f', first) ← holding [ov] (getMethod ov "__init__" pl)
        callWith p3 f' first (backTo p3 (starEach [e] (NdefX.envF (MF name qual params body scope cell cda) f s.heap.objs.size))) []) ∧
      swapsWith (.Call (.Attribute (.Call (.Name "super" p0) [] [] p1) "__init__" p2) [e] [] p3) none p4.line (NdefX.envF (MF name qual params body scope cell cda) f s.heap.objs.size) = pure false ∧
      starEach [e] (NdefX.envF (MF name qual params body scope cell cda) f s.heap.objs.size) = (false, eval e (NdefX.envF (MF name qual params body scope cell cda) f s.heap.objs.size)) :: starEach [] (NdefX.envF (MF name qual params body scope cell cda) f s.heap.objs.size) ∧
      te (NdefX.startF N vs [some (.ref C)]) H (fun x H1 => [x].length ≤ 1 ∧ H1 a = some (exo a C none) ∧ tr { nx := fun _ H2 => Q .non H2, rt := Q } (NdefX.startF N vs [some (.ref C)]) H1)) :
    FnOk P w K mg base CX (k + 1) f (PySem.W.fnX name qual params body scope [("__class__", cell)] dV kV doc pm an (.ref cda) ct) ps sp := by
  subst hbd
  exact init_fn F T hcd S hpa hN hks hka hm hint len hbody
end
end Bm
set_option maxHeartbeats 1000000
namespace Bm
open PySem PySem.Spec PyProof.Rows L2
/-! methods with cells, read off the written part -/
abbrev FnCl : Type := Option (Str × Str × Arguments × FuncBody × Scope × Addr × List Str × Addr)
def fnCl (K : PySem.W.Frag) (p : Str × Option Str) : FnCl := match K.lookup (He.fAd K p) with
  | some ⟨_, _, .func g, _⟩ => some (g.name, g.qualname, g.params, g.body, g.scope, g.globals, g.closure.map Prod.fst, g.builtins)
  | _ => none
/-- a class's __init__: class, qualified name, its def -/
structure DefI where
  cls : Str
  qual : Str
  st : Stmt
def DefI.val (d : DefI) : FnCl := some ("__init__", d.qual, defArgs d.st, .stmts (defBody d.st), defScope d.st, mainGlobals, ["__class__"], builtinsNs)
def DefI.at_ (d : DefI) : Str × Option Str := (d.cls, some "__init__")
def asC (g : Addr → Option Obj) (n : Nat) : List Addr := He.asD g n ++ [cStatics]
/-- all that is told of the head -/
structure SaysI (fa : List He.Fa) (fn : List He.DefD) (ts : List He.Tab) (tf : List He.Defn) (ci : List DefI) (ex : PySem.W.Frag → Bool) (w : World) (h : Heap) (K : PySem.W.Frag) : Prop where
  x : He.SaysX fa fn ts tf ex w h K
  cl : ci.map (fun d => fnCl K d.at_) = ci.map DefI.val
abbrev AlI : Type := He.AlX × List FnCl
def obsI (n : Nat) (fa : List He.Fa) (fn : List He.DefD) (ts : List He.Tab) (tf : List He.Defn) (ci : List DefI) (ex : PySem.W.Frag → Bool) (g : Addr → Option Obj) : AlI :=
  ((He.obsT fa fn ts (He.frT g (asC g n)), ex (He.frT g (asC g n)) && He.tabsB g tf (He.frT g (asC g n))), ci.map fun d => fnCl (He.frT g (asC g n)) d.at_)
def valI (fn : List He.DefD) (ts : List He.Tab) (ci : List DefI) (w : World) : AlI := (He.valX fn ts w, ci.map DefI.val)
theorem saysI_of {n : Nat} {fa : List He.Fa} {fn : List He.DefD} {ts : List He.Tab} {tf : List He.Defn} {ci : List DefI} {ex : PySem.W.Frag → Bool} {w : World} {h : Heap} (e : obsI n fa fn ts tf ci ex h.get? = valI fn ts ci w) : SaysI fa fn ts tf ci ex w h (He.frT h.get? (asC h.get? n)) := by
  have e0 := congrArg (fun z : AlI => z.1) e
  have e3 : ci.map (fun d => fnCl (He.frT h.get? (asC h.get? n)) d.at_) = ci.map DefI.val := congrArg (fun z : AlI => z.2) e
  generalize hK : He.frT h.get? (asC h.get? n) = K at *
  have e1 : He.obsT fa fn ts K = He.valT fn ts w := by
    rw [← hK]
    exact congrArg (fun z : He.AlX => z.1) e0
  have e2 : (ex K && He.tabsB h.get? tf K) = true := by
    rw [← hK]
    exact congrArg (fun z : He.AlX => z.2) e0
  obtain ⟨h1, h2⟩ := He.ba e2
  have all : ∀ p ∈ tf, PySem.W.codeHdIn K (He.cT K p).1 (He.cT K p).2 = true ∧ ∃ o, h.get? (He.cT K p).2 = some o ∧ He.emptyTab o = true := fun p hp => by
    obtain ⟨g1, g2⟩ := He.ba (List.all_eq_true.mp h2 p hp)
    refine ⟨g1, ?_⟩
    cases q : h.get? (He.cT K p).2 with
    | none => rw [q] at g2; cases g2
    | some o => rw [q] at g2; exact ⟨o, rfl, g2⟩
  refine ⟨⟨e1, h1, fun p hp => (all p hp).1, fun p hp => ?_, fun p hp => ?_⟩, e3⟩
  · obtain ⟨_, o, q, z⟩ := all p hp
    rw [← hK] at q ⊢
    exact He.frT_none q z
  · obtain ⟨_, o, q, z⟩ := all p hp
    rw [q, He.emptyTab_eq z]
def hookI (n : Nat) (fa : List He.Fa) (fn : List He.DefD) (ts : List He.Tab) (tf : List He.Defn) (ci : List DefI) (ex : PySem.W.Frag → Bool) : PySem.W.Hook where
  α := AlI
  obs := fun s => obsI n fa fn ts tf ci ex s.heap.get?
  val := fun w => valI fn ts ci w
  says := fun w h => ∃ K : PySem.W.Frag, K.In h ∧ SaysI fa fn ts tf ci ex w h K
  of := fun w s e => ⟨_, He.frT_in, saysI_of e⟩
  keeps := fun w h h2 ⟨K, hK, c⟩ k => ⟨K, PySem.W.Frag.In.keeps hK k, ⟨⟨c.x.t, c.x.more, c.x.hd, c.x.out, fun p hp => k _ _ (c.x.empty p hp)⟩, c.cl⟩⟩
theorem obsI_eq {n : Nat} {fa : List He.Fa} {fn : List He.DefD} {ts : List He.Tab} {tf : List He.Defn} {ci : List DefI} {ex : PySem.W.Frag → Bool} {g : Addr → Option Obj} {s : Shared} (h : ∀ a, g a = s.heap.get? a) : obsI n fa fn ts tf ci ex g = (hookI n fa fn ts tf ci ex).obs s := by
  obtain rfl : g = s.heap.get? := funext h
  rfl
/-! errors that bear something -/
def oexB (K : PySem.W.Frag) (C : Addr) : Bool := (match K.lookup C with
  | some ⟨.type t, _, .cls cd, sl⟩ => decide (t = "type") && (match cd.mro, sl.toList with
    | .ref C' :: bm, [_, _, _, _, some (.builtin n), _] => decide (C' = C) && (decide (n = "ValueError.__new__") && (!cd.hasDel && (cd.hasDict && PySem.HandSPX.refsVE bm)))
    | _, _ => false)
  | _ => false) && (He.eqO (PySem.W.findIn K (.ref C) "__setattr__") (some (some (.builtin "object.__setattr__"))) && (decide (PySem.W.subIn K (.ref C) (.type "BaseException") = some true) && (decide (PySem.W.typeIn K (.ref C) = some (.type "type")) && PySem.W.keepIn K (.ref C))))
theorem oexB_ok {K : PySem.W.Frag} {C : Addr} (h : oexB K C = true) : OexC K C := by
  obtain ⟨h1, h⟩ := He.ba h
  obtain ⟨h2, h⟩ := He.ba h
  obtain ⟨h3, h⟩ := He.ba h
  obtain ⟨h4, h5⟩ := He.ba h
  refine ⟨?_, He.eqO_ok h2, of_decide_eq_true h3, of_decide_eq_true h4, h5⟩
  clear h2 h3 h4 h5 h
  split at h1
  · rename_i t dd cd sl ho
    obtain ⟨g1, g2⟩ := He.ba h1
    have g1 := of_decide_eq_true g1
    subst g1
    split at g2
    · rename_i C' bm k0 k1 k2 k3 n k5 hm hs
      obtain ⟨z1, z⟩ := He.ba g2
      obtain ⟨z2, z⟩ := He.ba z
      obtain ⟨z3, z⟩ := He.ba z
      obtain ⟨z4, z5⟩ := He.ba z
      have z1 := of_decide_eq_true z1
      have z2 := of_decide_eq_true z2
      subst z1 z2
      obtain ⟨nm, bs, mro, ns, qn, hd, sn, sub, ab, col, dl⟩ := cd
      dsimp only at hm z3 z4
      have z3 : dl = false := by simpa using z3
      subst hm z3 z4
      have hsl : sl = #[k0, k1, k2, k3, some (.builtin "ValueError.__new__"), k5] := by
        obtain ⟨l⟩ := sl
        simp only at hs
        rw [hs]
      subst hsl
      exact ⟨nm, qn, ns, bs, bm, sn, sub, ab, col, dd, k0, k1, k2, k3, k5, ho, z5⟩
    · cases g2
  · cases h1
/-- the written part of such a class's __init__ (file: the program's own name) -/
def supB (K : PySem.W.Frag) (file : Str) (x qual : Str) : Bool :=
  (match K.lookup (He.fAd K (x, some "__init__")) with
  | some ⟨_, _, .func g, _⟩ => (match g.code, g.closure with
    | .ref cda, [(_, cell)] => decide (g.defaults = .none) && (PySem.W.codeIn K (.ref cda) qual && ((match K.lookup cda with
      | some ⟨_, _, .fields vs, _⟩ => (match (vs[2]? : Option Value) with
        | some (.str fl _) => file == fl
        | _ => false)
      | _ => false) && (match K.lookup cell with
      | some ⟨_, _, .cell (some (.ref D)), _⟩ => decide (D = He.ga K x)
      | _ => false)))
    | _, _ => false)
  | _ => false) && ((PySem.W.clsIn K (He.ga K x)).isSome && (decide (PySem.W.mroIn K (He.ga K x) (.ref (He.ga K x)) = some true) && (He.eqO (PySem.W.ks_superIn K (He.ga K x) (He.ga K x) "__init__") (some (some (.builtin "ValueError.__init__"))) &&
    (decide (PySem.W.subIn K (.ref (He.ga K x)) (.type "ValueError") = some true) && (He.eqO (PySem.W.nsIn K cStatics "thirdparty.any") (some none) && (oexB K (He.ga K x) &&
    (He.eqO (PySem.W.findIn K (.ref (He.ga K x)) "__init__") (some (some (.ref (He.fAd K (x, some "__init__"))))) && decide (PySem.W.typeIn K (.ref (He.fAd K (x, some "__init__"))) = some (.type "function")))))))))
structure SupI (P : Program) (K : PySem.W.Frag) (x qual : Str) (st : Stmt) : Prop where
  f : ∃ (cell cda : Addr) (kV doc pm ct : Value) (an : Option Addr), SupF P K (He.ga K x) (He.fAd K (x, some "__init__")) cell cda (defArgs st) (PySem.W.fnX "__init__" qual (defArgs st) (defBody st) (defScope st) [("__class__", cell)] .none kV doc pm an (.ref cda) ct) ∧ PySem.W.codeIn K (.ref cda) qual = true
  o : OexC K (He.ga K x)
  i : PySem.W.findIn K (.ref (He.ga K x)) "__init__" = some (some (.ref (He.fAd K (x, some "__init__"))))
  t : PySem.W.typeIn K (.ref (He.fAd K (x, some "__init__"))) = some (.type "function")
theorem supI_of {P : Program} {K : PySem.W.Frag} {x qual : Str} {st : Stmt} (h : supB K P.main.file x qual = true) (e : fnCl K (x, some "__init__") = (DefI.mk x qual st).val) (top : (P.main.scope.names.lookup ("super" : Str)).isSome = false) : SupI P K x qual st := by
  obtain ⟨h1, h⟩ := He.ba h
  obtain ⟨h2, h⟩ := He.ba h
  obtain ⟨h3, h⟩ := He.ba h
  obtain ⟨h4, h⟩ := He.ba h
  obtain ⟨h5, h⟩ := He.ba h
  obtain ⟨h6, h⟩ := He.ba h
  obtain ⟨h7, h⟩ := He.ba h
  obtain ⟨h8, h9⟩ := He.ba h
  refine ⟨?_, oexB_ok h7, He.eqO_ok h8, of_decide_eq_true h9⟩
  unfold fnCl at e
  split at h1
  · rename_i oc od g osl ho
    rw [ho] at e
    obtain ⟨n1, n2, n3, n4, n5, n6, n7, n8, n9, n10, n11, n12, n13, n14, n15⟩ := g
    have e2 : (some (n1, n2, n3, n4, n5, n6, n7.map Prod.fst, n15) : FnCl) = some (("__init__" : Str), qual, defArgs st, FuncBody.stmts (defBody st), defScope st, mainGlobals, [("__class__" : Str)], builtinsNs) := e
    simp only [Option.some.injEq, Prod.mk.injEq] at e2
    obtain ⟨q1, q2, q3, q4, q5, q6, q7, q8⟩ := e2
    subst q1 q2 q3 q4 q5 q6 q8
    dsimp only at h1
    split at h1
    · rename_i _ _ cda y cell
      have hy : y = "__class__" := by
        simp only [List.map_cons, List.map_nil, List.cons.injEq, and_true] at q7
        exact q7
      subst hy
      obtain ⟨g0, g4⟩ := He.ba h1
      have g0 : n8 = .none := of_decide_eq_true g0
      subst g0
      obtain ⟨g1, g5⟩ := He.ba g4
      obtain ⟨g2, g3⟩ := He.ba g5
      refine ⟨cell, cda, n9, n10, n11, n14, n12, ⟨⟨_, _, _, ho⟩, rfl, ?_, ?_, h2, of_decide_eq_true h3, He.eqO_ok h4, of_decide_eq_true h5, He.eqO_ok h6, top⟩, g1⟩
      · split at g2
        · rename_i oc2 od2 vs sl2 hl
          split at g2
          · rename_i fl tf hv
            exact ⟨_, _, _, _, _, _, hl, hv, g2⟩
          · cases g2
        · cases g2
      · split at g3
        · rename_i oc2 od2 D sl2 hl
          have g3 := of_decide_eq_true g3
          subst g3
          exact ⟨_, _, _, hl⟩
        · cases g3
    · cases h1
  · cases h1
end Bm
set_option maxHeartbeats 0
namespace Bm
open PySem PySem.Spec PyProof.Rows L2
def top (i : Nat) : Stmt := PySem.Challenge.pw_bitmill_k22_whole_lean_lists_say_the_sam.main.body.getD i (.Pass ⟨0, 0, 0, 0⟩)
abbrev s_is_number : Stmt := top 4
abbrev s_is_part : Stmt := top 9
abbrev s_is_deed : Stmt := top 10
abbrev s_going_to : Stmt := top 12
abbrev s_always_jumps : Stmt := top 13
abbrev s_leaned : Stmt := top 14
abbrev s_led : Stmt := top 15
abbrev s_end_of : Stmt := top 16
abbrev s_shortened : Stmt := top 17
abbrev s_moved : Stmt := top 18
abbrev s_is_idle : Stmt := top 19
abbrev s_numbers_reached : Stmt := top 20
abbrev s_numbers_behind : Stmt := top 21
abbrev s_lean : Stmt := top 24
abbrev s_checked_deeds : Stmt := top 25
abbrev s_is_listed : Stmt := top 26
abbrev s__law_start : Stmt := top 28
abbrev s__law_drawn : Stmt := top 29
abbrev s__law_same : Stmt := top 30
abbrev s__law_plain : Stmt := top 31
abbrev s__law_pairs : Stmt := top 32
abbrev s__law_times : Stmt := top 33
abbrev s__law_number : Stmt := top 34
abbrev s__law_deed : Stmt := top 35
abbrev s__law_words : Stmt := top 36
abbrev s__law_deed_at : Stmt := top 37
abbrev s__law_image : Stmt := top 38
abbrev s__law_mill : Stmt := top 39
abbrev s__law_state : Stmt := top 40
abbrev s__law_brought : Stmt := top 41
abbrev s__law_stopped : Stmt := top 42
abbrev s__law_flagged : Stmt := top 43
abbrev s__law_does : Stmt := top 44
abbrev s__law_moves : Stmt := top 45
abbrev s__law_run : Stmt := top 46
abbrev s__law_given : Stmt := top 47
abbrev s__law_laid : Stmt := top 48
abbrev s__law_image_of : Stmt := top 49
abbrev s__law_list : Stmt := top 50
abbrev s__law_winding : Stmt := top 51
abbrev s_law : Stmt := top 52
def d_is_number : He.DefD := ⟨("is_number", none), "is_number", "is_number", defArgs s_is_number, defBody s_is_number, defScope s_is_number, [], []⟩
def d_is_part : He.DefD := ⟨("is_part", none), "is_part", "is_part", defArgs s_is_part, defBody s_is_part, defScope s_is_part, [], []⟩
def d_is_deed : He.DefD := ⟨("is_deed", none), "is_deed", "is_deed", defArgs s_is_deed, defBody s_is_deed, defScope s_is_deed, [], []⟩
def d_going_to : He.DefD := ⟨("going_to", none), "going_to", "going_to", defArgs s_going_to, defBody s_going_to, defScope s_going_to, [], []⟩
def d_always_jumps : He.DefD := ⟨("always_jumps", none), "always_jumps", "always_jumps", defArgs s_always_jumps, defBody s_always_jumps, defScope s_always_jumps, [], []⟩
def d_leaned : He.DefD := ⟨("leaned", none), "leaned", "leaned", defArgs s_leaned, defBody s_leaned, defScope s_leaned, [], []⟩
def d_led : He.DefD := ⟨("led", none), "led", "led", defArgs s_led, defBody s_led, defScope s_led, [], []⟩
def d_end_of : He.DefD := ⟨("end_of", none), "end_of", "end_of", defArgs s_end_of, defBody s_end_of, defScope s_end_of, [], []⟩
def d_shortened : He.DefD := ⟨("shortened", none), "shortened", "shortened", defArgs s_shortened, defBody s_shortened, defScope s_shortened, [], []⟩
def d_moved : He.DefD := ⟨("moved", none), "moved", "moved", defArgs s_moved, defBody s_moved, defScope s_moved, [], []⟩
def d_is_idle : He.DefD := ⟨("is_idle", none), "is_idle", "is_idle", defArgs s_is_idle, defBody s_is_idle, defScope s_is_idle, [], []⟩
def d_numbers_reached : He.DefD := ⟨("numbers_reached", none), "numbers_reached", "numbers_reached", defArgs s_numbers_reached, defBody s_numbers_reached, defScope s_numbers_reached, [], []⟩
def d_numbers_behind : He.DefD := ⟨("numbers_behind", none), "numbers_behind", "numbers_behind", defArgs s_numbers_behind, defBody s_numbers_behind, defScope s_numbers_behind, [], []⟩
def d_lean : He.DefD := ⟨("lean", none), "lean", "lean", defArgs s_lean, defBody s_lean, defScope s_lean, [], []⟩
def d_checked_deeds : He.DefD := ⟨("checked_deeds", none), "checked_deeds", "checked_deeds", defArgs s_checked_deeds, defBody s_checked_deeds, defScope s_checked_deeds, [], []⟩
def d_is_listed : He.DefD := ⟨("is_listed", none), "is_listed", "is_listed", defArgs s_is_listed, defBody s_is_listed, defScope s_is_listed, [], []⟩
def d__law_start : He.DefD := ⟨("_law_start", none), "_law_start", "_law_start", defArgs s__law_start, defBody s__law_start, defScope s__law_start, [], []⟩
def d__law_drawn : He.DefD := ⟨("_law_drawn", none), "_law_drawn", "_law_drawn", defArgs s__law_drawn, defBody s__law_drawn, defScope s__law_drawn, [], []⟩
def d__law_same : He.DefD := ⟨("_law_same", none), "_law_same", "_law_same", defArgs s__law_same, defBody s__law_same, defScope s__law_same, [], []⟩
def d__law_plain : He.DefD := ⟨("_law_plain", none), "_law_plain", "_law_plain", defArgs s__law_plain, defBody s__law_plain, defScope s__law_plain, [], []⟩
def d__law_pairs : He.DefD := ⟨("_law_pairs", none), "_law_pairs", "_law_pairs", defArgs s__law_pairs, defBody s__law_pairs, defScope s__law_pairs, [], []⟩
def d__law_times : He.DefD := ⟨("_law_times", none), "_law_times", "_law_times", defArgs s__law_times, defBody s__law_times, defScope s__law_times, [], []⟩
def d__law_number : He.DefD := ⟨("_law_number", none), "_law_number", "_law_number", defArgs s__law_number, defBody s__law_number, defScope s__law_number, [], []⟩
def d__law_deed : He.DefD := ⟨("_law_deed", none), "_law_deed", "_law_deed", defArgs s__law_deed, defBody s__law_deed, defScope s__law_deed, [], []⟩
def d__law_words : He.DefD := ⟨("_law_words", none), "_law_words", "_law_words", defArgs s__law_words, defBody s__law_words, defScope s__law_words, [], []⟩
def d__law_deed_at : He.DefD := ⟨("_law_deed_at", none), "_law_deed_at", "_law_deed_at", defArgs s__law_deed_at, defBody s__law_deed_at, defScope s__law_deed_at, [], []⟩
def d__law_image : He.DefD := ⟨("_law_image", none), "_law_image", "_law_image", defArgs s__law_image, defBody s__law_image, defScope s__law_image, [], []⟩
def d__law_mill : He.DefD := ⟨("_law_mill", none), "_law_mill", "_law_mill", defArgs s__law_mill, defBody s__law_mill, defScope s__law_mill, [], []⟩
def d__law_state : He.DefD := ⟨("_law_state", none), "_law_state", "_law_state", defArgs s__law_state, defBody s__law_state, defScope s__law_state, [], []⟩
def d__law_brought : He.DefD := ⟨("_law_brought", none), "_law_brought", "_law_brought", defArgs s__law_brought, defBody s__law_brought, defScope s__law_brought, [], []⟩
def d__law_stopped : He.DefD := ⟨("_law_stopped", none), "_law_stopped", "_law_stopped", defArgs s__law_stopped, defBody s__law_stopped, defScope s__law_stopped, [], []⟩
def d__law_flagged : He.DefD := ⟨("_law_flagged", none), "_law_flagged", "_law_flagged", defArgs s__law_flagged, defBody s__law_flagged, defScope s__law_flagged, [], []⟩
def d__law_does : He.DefD := ⟨("_law_does", none), "_law_does", "_law_does", defArgs s__law_does, defBody s__law_does, defScope s__law_does, [], []⟩
def d__law_moves : He.DefD := ⟨("_law_moves", none), "_law_moves", "_law_moves", defArgs s__law_moves, defBody s__law_moves, defScope s__law_moves, [], []⟩
def d__law_run : He.DefD := ⟨("_law_run", none), "_law_run", "_law_run", defArgs s__law_run, defBody s__law_run, defScope s__law_run, [], []⟩
def d__law_given : He.DefD := ⟨("_law_given", none), "_law_given", "_law_given", defArgs s__law_given, defBody s__law_given, defScope s__law_given, [], []⟩
def d__law_laid : He.DefD := ⟨("_law_laid", none), "_law_laid", "_law_laid", defArgs s__law_laid, defBody s__law_laid, defScope s__law_laid, [], []⟩
def d__law_image_of : He.DefD := ⟨("_law_image_of", none), "_law_image_of", "_law_image_of", defArgs s__law_image_of, defBody s__law_image_of, defScope s__law_image_of, [], []⟩
def d__law_list : He.DefD := ⟨("_law_list", none), "_law_list", "_law_list", defArgs s__law_list, defBody s__law_list, defScope s__law_list, [], []⟩
def d__law_winding : He.DefD := ⟨("_law_winding", none), "_law_winding", "_law_winding", defArgs s__law_winding, defBody s__law_winding, defScope s__law_winding, [], []⟩
def d_law : He.DefD := ⟨("law", none), "law", "law", defArgs s_law, defBody s_law, defScope s_law, [], []⟩
def clsFn (st : Stmt) : Stmt := match st with
  | .ClassDef _ _ _ body _ _ _ _ _ _ _ => body.getD 0 (.Pass ⟨0, 0, 0, 0⟩)
  | _ => .Pass ⟨0, 0, 0, 0⟩
abbrev s_init_BadList : Stmt := clsFn (top 2)
def fnL : List He.DefD := [d_is_number, d_is_part, d_is_deed, d_going_to, d_always_jumps, d_leaned, d_led, d_end_of, d_shortened, d_moved, d_is_idle, d_numbers_reached, d_numbers_behind, d_lean, d_checked_deeds, d_is_listed, d__law_start, d__law_drawn, d__law_same, d__law_plain, d__law_pairs, d__law_times, d__law_number, d__law_deed, d__law_words, d__law_deed_at, d__law_image, d__law_mill, d__law_state, d__law_brought, d__law_stopped, d__law_flagged, d__law_does, d__law_moves, d__law_run, d__law_given, d__law_laid, d__law_image_of, d__law_list, d__law_winding, d_law]
def faL : List He.Fa := [.glo "MillError", .glo "BadList", .glo "is_number", .glo "TIMES", .glo "PARTS", .glo "SPANS", .glo "is_part", .glo "is_deed", .glo "going_to", .glo "always_jumps", .glo "leaned", .glo "led", .glo "end_of", .glo "shortened", .glo "moved", .glo "is_idle", .glo "numbers_reached", .glo "numbers_behind", .glo "lean", .glo "checked_deeds", .glo "is_listed", .glo "_law_start", .glo "_law_drawn", .glo "_law_same", .glo "_law_plain", .glo "_law_pairs", .glo "_law_times", .glo "_law_number", .glo "_law_deed", .glo "_law_words", .glo "_law_deed_at", .glo "_law_image", .glo "_law_mill", .glo "_law_state", .glo "_law_brought", .glo "_law_stopped", .glo "_law_flagged", .glo "_law_does", .glo "_law_moves", .glo "_law_run", .glo "_law_given", .glo "_law_laid", .glo "_law_image_of", .glo "_law_list", .glo "_law_winding", .glo "law", .int "DEEDS_MOST" 200, .free "all", .free "bool", .free "divmod", .free "enumerate", .free "int", .free "isinstance", .free "len", .free "list", .free "max", .free "min", .free "range", .free "str", .free "sum", .free "super", .free "tuple", .free "zip", .noat "BadList" "number"]
def tsL : List He.Tab := [(fun K => He.ga K "PARTS", ["halt", "rest", "back", "say", "ask", "push", "pop", "add", "less", "and", "or", "xor", "left", "right", "turn", "plus", "set", "high", "load", "store", "jump", "call"]), (fun K => He.ga K "SPANS", ["reg", "signed six", "six", "seven", "nine", "goal"])]
abbrev R : PySem.W.OpenRow := PySem.W.OpenLaw.row PySem.Challenge.rw_bitmill_k22_whole_lean_lists_say_the_sam
def loose0 : List PySem.Str := ["MillError", "BadList", "is_number", "TIMES", "PARTS", "SPANS", "is_part", "is_deed", "going_to", "always_jumps", "leaned", "led", "end_of", "shortened", "moved", "is_idle", "numbers_reached", "numbers_behind", "DEEDS_MOST", "lean", "checked_deeds", "is_listed", "_law_start", "_law_drawn", "_law_same", "_law_plain", "_law_pairs", "_law_times", "_law_number", "_law_deed"]
def loose1 : List PySem.Str := ["_law_words", "_law_deed_at", "_law_image", "_law_mill", "_law_state", "_law_brought", "_law_stopped", "_law_flagged", "_law_does", "_law_moves", "_law_run", "_law_given", "_law_laid", "_law_image_of", "_law_list", "_law_winding"]
def looseL : List PySem.Str := loose0 ++ loose1
def ciL : List DefI := [⟨"BadList", "BadList.__init__", s_init_BadList⟩]
def LAWI : Nat := 52
end Bm
set_option maxHeartbeats 400000
namespace Bm
open PySem L2
/-! the deeds -/
def SG : List Str := ["halt", "rest", "back", "say", "ask", "push", "pop"]
def SM : List Str := ["add", "less", "and", "or", "xor", "left", "right", "turn"]
def TM : List Str := ["always", "zero", "some", "carry", "clear", "minus", "over"]
abbrev nm (l : List Str) (k : Nat) : Str := l.getD k ""
inductive De where
  | sgl (k : Nat) | reg (k : Nat) (a : Int) | sum (k : Nat) (d a b : Int) | plus (d a n : Int) | set (d n : Int) | high (d n : Int) | load (d a n : Int) | store (d a n : Int)
  | jump (k : Nat) (g : Int) (far : Bool) | call (g : Int) (far : Bool)
def r3 (a : Int) : Prop := 0 ≤ a ∧ a ≤ 7
def De.ok : De → Prop
  | .sgl k => k < 3
  | .reg k a => 3 ≤ k ∧ k < 7 ∧ r3 a
  | .sum k d a b => k < 8 ∧ r3 d ∧ r3 a ∧ r3 b
  | .plus d a n => r3 d ∧ r3 a ∧ -32 ≤ n ∧ n ≤ 31
  | .set d n => r3 d ∧ 0 ≤ n ∧ n ≤ 511
  | .high d n => r3 d ∧ 0 ≤ n ∧ n ≤ 127
  | .load d a n => r3 d ∧ r3 a ∧ 0 ≤ n ∧ n ≤ 63
  | .store d a n => r3 d ∧ r3 a ∧ 0 ≤ n ∧ n ≤ 63
  | .jump k g _ => k < 7 ∧ 0 ≤ g ∧ g ≤ 65535
  | .call g _ => 0 ≤ g ∧ g ≤ 65535
def De.vals : De → List V
  | .sgl k => [.str (nm SG k)]
  | .reg k a => [.str (nm SG k), .int a]
  | .sum k d a b => [.str (nm SM k), .int d, .int a, .int b]
  | .plus d a n => [.str "plus", .int d, .int a, .int n]
  | .set d n => [.str "set", .int d, .int n]
  | .high d n => [.str "high", .int d, .int n]
  | .load d a n => [.str "load", .int d, .int a, .int n]
  | .store d a n => [.str "store", .int d, .int a, .int n]
  | .jump k g f => [.str "jump", .str (nm TM k), .int g, .bl f]
  | .call g f => [.str "call", .int g, .bl f]
/-- the word of a deed that goes nowhere -/
def De.word : De → Int
  | .sgl k => k * 512
  | .reg k a => k * 512 + a * 64
  | .sum k d a b => 4096 + d * 512 + a * 64 + b * 8 + k
  | .plus d a n => 8192 + d * 512 + a * 64 + n % 64
  | .set d n => 12288 + d * 512 + n
  | .high d n => 16384 + d * 512 + n
  | .load d a n => 20480 + d * 512 + a * 64 + n
  | .store d a n => 24576 + d * 512 + a * 64 + n
  | _ => 0
def De.goes : De → Bool
  | .jump _ _ _ => true
  | .call _ _ => true
  | _ => false
def near (g p : Int) : Prop := -16 ≤ g - p - 1 ∧ g - p - 1 ≤ 15
instance (g p : Int) : Decidable (near g p) := inferInstanceAs (Decidable (_ ∧ _))
def De.reached (p : Int) : De → Prop
  | .jump _ g false => near g p
  | .call g false => near g p
  | _ => True
def De.words (p : Int) : De → List Int
  | .jump k g true => [32768 + k * 512, g]
  | .jump k g false => [28672 + k * 512 + (g - p - 1) % 32]
  | .call g true => [40960, g]
  | .call g false => [36864 + (g - p - 1) % 32]
  | d => [d.word]
theorem words_word {d : De} (h : d.goes = false) (p : Int) : d.words p = [d.word] := by
  cases d <;> first | rfl | cases h
/-! bits side by side -/
theorem or_side {x y : Int} (k : Nat) (hx : 0 ≤ x) (h0 : 0 ≤ y) (h1 : y < 2 ^ k) : Builtin.bitOr (x * 2 ^ k) y = x * 2 ^ k + y := by
  rw [Bits.bitOr_join' h0 h1 hx, Int.add_comm]
theorem or6 {x y : Int} (hx : 0 ≤ x) (h0 : 0 ≤ y) (h1 : y < 64) : Builtin.bitOr (x * 64) y = x * 64 + y := or_side 6 hx h0 h1
theorem or9 {x y : Int} (hx : 0 ≤ x) (h0 : 0 ≤ y) (h1 : y < 512) : Builtin.bitOr (x * 512) y = x * 512 + y := or_side 9 hx h0 h1
theorem or3' {x y : Int} (hx : 0 ≤ x) (h0 : 0 ≤ y) (h1 : y < 8) : Builtin.bitOr (x * 8) y = x * 8 + y := or_side 3 hx h0 h1
/-! the names -/
theorem sg_ne : ∀ k, k < 7 → nm SG k ≠ "set" ∧ nm SG k ≠ "high" ∧ nm SG k ≠ "jump" ∧ nm SG k ≠ "call" := by decide +kernel
theorem sm_ne : ∀ k, k < 8 → nm SM k ≠ "plus" ∧ nm SM k ≠ "load" ∧ nm SM k ≠ "store" ∧ nm SM k ≠ "jump" ∧ nm SM k ≠ "call" := by decide +kernel
theorem sg_at : ∀ k, k < 7 → SG[k]? = some (nm SG k) ∧ ∀ m, m < k → SG[m]? ≠ some (nm SG k) := by decide +kernel
theorem sm_at : ∀ k, k < 8 → SM[k]? = some (nm SM k) ∧ ∀ m, m < k → SM[m]? ≠ some (nm SM k) := by decide +kernel
theorem tm_at : ∀ k, k < 7 → TM[k]? = some (nm TM k) ∧ ∀ m, m < k → TM[m]? ≠ some (nm TM k) := by decide +kernel
end Bm
set_option maxHeartbeats 400000
namespace Bm
open PySem PySem.Spec PyProof.Rows L2
/-! a tuple that the top has written, at an address -/
def tupAt (K : PySem.W.Frag) (a : Addr) (vs : List He.Dv) : Bool := match K.lookup a with
  | some ⟨.type c, none, .seq its _, _⟩ => decide (c = "tuple") && (decide (its.size ≤ sizeLine) && He.relAll (vs.map (He.Dv.v K)) its.toList)
  | _ => false
theorem tupAt_ok {K : PySem.W.Frag} {a : Addr} {vs : List He.Dv} (h : tupAt K a vs = true) (H : Hp) : SqT K H a (vs.map (He.Dv.v K)) ∧ tyV K "tuple" (.ref a) H := by
  unfold tupAt at h
  cases q : K.lookup a with
  | none => rw [q] at h; cases h
  | some o =>
    obtain ⟨oc, od, dt, osl⟩ := o
    rw [q] at h
    cases oc with
    | type c =>
      cases od with
      | some z => cases dt <;> cases h
      | none =>
        cases dt with
        | seq its n =>
          obtain ⟨h1, h2⟩ := He.ba (show (decide (c = "tuple") && (decide (its.size ≤ sizeLine) && He.relAll (vs.map (He.Dv.v K)) its.toList)) = true from h)
          obtain ⟨h3, h4⟩ := He.ba h2
          exact ⟨.inr ⟨_, its, n, q, congrArg Value.type (of_decide_eq_true h1), rfl, of_decide_eq_true h3, He.relAll_ok h4⟩, .inr (.inl ⟨rfl, _, q, congrArg Value.type (of_decide_eq_true h1), rfl⟩)⟩
        | _ => cases h
    | _ => cases od <;> cases dt <;> cases h
/-! a table of the top from texts to tuples -/
def rowB (K : PySem.W.Frag) (d : Addr) (r : Str × List He.Dv) : Bool := match PySem.W.nsIn K d r.1 with
  | some (some (.ref t)) => tupAt K t r.2
  | _ => false
theorem rowB_ok {K : PySem.W.Frag} {d : Addr} {r : Str × List He.Dv} (h : rowB K d r = true) : ∃ t, PySem.W.nsIn K d r.1 = some (some (.ref t)) ∧ ∀ H, SqT K H t (r.2.map (He.Dv.v K)) := by
  unfold rowB at h
  cases q : PySem.W.nsIn K d r.1 with
  | none => rw [q] at h; cases h
  | some o =>
    rw [q] at h
    cases o with
    | none => cases h
    | some v =>
      cases v with
      | ref t => exact ⟨t, rfl, fun H => (tupAt_ok h H).1⟩
      | _ => cases h
def noB (K : PySem.W.Frag) (d : Addr) (x : Str) : Bool := He.eqO (PySem.W.nsIn K d x) (some none)
def dStr (l : List Str) : List He.Dv := l.map He.Dv.str
theorem dStr_v {K : PySem.W.Frag} (l : List Str) : (dStr l).map (He.Dv.v K) = l.map V.str := by
  unfold dStr
  rw [List.map_map]
  rfl
def PT : List (Str × List Str) := [("halt", []), ("rest", []), ("back", []), ("say", ["reg"]), ("ask", ["reg"]), ("push", ["reg"]), ("pop", ["reg"]),
  ("add", ["reg", "reg", "reg"]), ("less", ["reg", "reg", "reg"]), ("and", ["reg", "reg", "reg"]), ("or", ["reg", "reg", "reg"]), ("xor", ["reg", "reg", "reg"]), ("left", ["reg", "reg", "reg"]), ("right", ["reg", "reg", "reg"]), ("turn", ["reg", "reg", "reg"]),
  ("plus", ["reg", "reg", "signed six"]), ("set", ["reg", "nine"]), ("high", ["reg", "seven"]), ("load", ["reg", "reg", "six"]), ("store", ["reg", "reg", "six"]), ("jump", ["when", "goal", "far"]), ("call", ["goal", "far"])]
def ST : List (Str × Int × Int) := [("reg", 0, 7), ("signed six", -32, 31), ("six", 0, 63), ("seven", 0, 127), ("nine", 0, 511), ("goal", 0, 65535)]
/-- what the deeds' module has written -/
def conB (odd : List Str) (K : PySem.W.Frag) : Bool :=
  (tupAt K (He.ga K "TIMES") (dStr TM) &&
    ((PT.all fun r => rowB K (He.ga K "PARTS") (r.1, dStr r.2)) && ((ST.all fun r => rowB K (He.ga K "SPANS") (r.1, [.int r.2.1, .int r.2.2])) && odd.all fun x => noB K (He.ga K "PARTS") x)))
structure Con (w : World) (K : PySem.W.Frag) (mg : Str → Option Value) (odd : List Str) : Prop where
  g_TIMES : mg "TIMES" = some (.ref (He.ga K "TIMES"))
  g_PARTS : mg "PARTS" = some (.ref (He.ga K "PARTS"))
  g_SPANS : mg "SPANS" = some (.ref (He.ga K "SPANS"))
  tm : ∀ H, SqT K H (He.ga K "TIMES") (TM.map V.str) ∧ tyV K "tuple" (.ref (He.ga K "TIMES")) H
  parts : ∃ es n, KDict K w (He.ga K "PARTS") es n
  spans : ∃ es n, KDict K w (He.ga K "SPANS") es n
  part : ∀ r ∈ PT, ∃ t, PySem.W.nsIn K (He.ga K "PARTS") r.1 = some (some (.ref t)) ∧ ∀ H, SqT K H t (r.2.map V.str)
  span : ∀ r ∈ ST, ∃ t, PySem.W.nsIn K (He.ga K "SPANS") r.1 = some (some (.ref t)) ∧ ∀ H, SqT K H t [.int r.2.1, .int r.2.2]
  odd : ∀ x ∈ odd, PySem.W.nsIn K (He.ga K "PARTS") x = some none
theorem con_of {w : World} {K : PySem.W.Frag} {mg : Str → Option Value} {odd : List Str} (h : conB odd K = true) (g3 : mg "TIMES" = some (.ref (He.ga K "TIMES")))
    (g4 : mg "PARTS" = some (.ref (He.ga K "PARTS"))) (g5 : mg "SPANS" = some (.ref (He.ga K "SPANS"))) (p : ∃ es n, KDict K w (He.ga K "PARTS") es n) (s : ∃ es n, KDict K w (He.ga K "SPANS") es n) : Con w K mg odd := by
  obtain ⟨h3, h⟩ := He.ba h
  obtain ⟨h4, h⟩ := He.ba h
  obtain ⟨h5, h6⟩ := He.ba h
  refine ⟨g3, g4, g5, fun H => ?_, p, s, fun r hr => ?_, fun r hr => ?_, fun x hx => ?_⟩
  · rw [← dStr_v (K := K)]
    exact tupAt_ok h3 H
  · obtain ⟨t, e, q⟩ := rowB_ok (List.all_eq_true.mp h4 r hr)
    refine ⟨t, e, fun H => ?_⟩
    rw [← dStr_v (K := K)]
    exact q H
  · obtain ⟨t, e, q⟩ := rowB_ok (List.all_eq_true.mp h5 r hr)
    exact ⟨t, e, fun H => q H⟩
  · exact He.eqO_ok (List.all_eq_true.mp h6 x hx)
end Bm
set_option maxHeartbeats 0
namespace Bm
open PySem PySem.Spec PyProof.Rows L2
def tfL : List He.Defn := []
def FILE : Str := PySem.Challenge.pw_bitmill_k22_whole_lean_lists_say_the_sam.main.file
def exB (K : PySem.W.Frag) : Bool := conB [] K && supB K FILE "BadList" "BadList.__init__"
def LIM : Nat := 6
abbrev hk : PySem.W.Hook := hookI LIM faL fnL tsL tfL ciL exB
def ob (s : PySem.W.SharedT) : AlI := obsI LIM faL fnL tsL tfL ciL exB (HandSHeadRun.getT s)
theorem ob_eq (s : PySem.W.SharedT) : ob s = hk.obs s.abs := obsI_eq (HandSHeadRun.getT_eq s)
theorem run_f (w : World) : HandSHeadRun.RunEq R (PySem.W.view R.prog [LAWI]) hk ob 6000 looseL (w.withFollow "special-get-raises" false) := by
  intro os
  kernel_rfl
theorem run_t (w : World) : HandSHeadRun.RunEq R (PySem.W.view R.prog [LAWI]) hk ob 6000 looseL (w.withFollow "special-get-raises" true) := by
  intro os
  kernel_rfl
theorem run (w : World) : HandSHeadRun.RunEq R (PySem.W.view R.prog [LAWI]) hk ob 6000 looseL w :=
  PySem.W.byRow2 "special-get-raises" (P := fun w => HandSHeadRun.RunEq R (PySem.W.view R.prog [LAWI]) hk ob 6000 looseL w) run_f run_t w
end Bm
set_option maxHeartbeats 400000
namespace Bm
open PySem PySem.Spec PyProof.Rows L2
theorem Same.mut {H H' : Hp} {p : Addr} {o : HO} (e : Same H H') (h : H p = none) : Same H (upd H' p o) := fun a u ha => by
  rw [upd_ne (ne_of_none ha h)]
  exact e a u ha
theorem walk_zipT {K : PySem.W.Frag} {a b : Addr} {xs ys : List V} {n : Nat} (hn : n = min xs.length ys.length) : Walk (RZ.ItzT K a b) n (fun H => SqT K H a xs ∧ SqT K H b ys) (YPair (fun i => xs[i]?) (fun i => ys[i]?)) := by
  subst hn
  constructor
  · intro n _ ln g
    exact ⟨xs, ys, xs[n]'(by omega), ys[n]'(by omega), g.1, g.2, List.getElem?_eq_getElem (by omega), List.getElem?_eq_getElem (by omega)⟩
  · exact fun _ g => ⟨xs, ys, g.1, g.2, by omega⟩
  · rintro n G v G2 _ g ⟨T, p, r, e1, e2, e3, a1, a2⟩
    exact ⟨T, p, r, e1, e2, e3, a1 xs g.1, a2 ys g.2⟩
/-! in, of a tuple of any data -/
def rInT (K : PySem.W.Frag) : R2 := fun x y H Q => ∃ d ds, Dp K H x d ∧ Dp K H y (.tuple ds) ∧ SeqAt.shaped d = true ∧ SeqAt.shaped (.tuple ds) = true ∧ Q (.bl (ds.any fun z => PyData.eqv z d)) H
theorem op_inT {X : Cx} (hu : X.A.units + 65 < cLine) : OpR X (compareOp .In) (rInT X.K) := by
  intro pn s0 σ G a b va vb Q J ra rb ⟨d, ds, g1, g2, sh1, sh2, q⟩
  have w1 := Dp.reads J d a va g1 ra
  have w2 := Dp.reads J (.tuple ds) b vb g2 rb
  exact SeqAt.in_tuple_reads w2.choose_spec w1.choose_spec (SeqAt.canLay_of_shaped sh2) (SeqAt.canLay_of_shaped sh1) (room_in_shaped sh1 hu) ⟨.bl _, G, J, rfl, q⟩
/-- in: flat items, or any data in a tuple -/
def rIn2 (K : PySem.W.Frag) : R2 := fun x y H Q => rIn K false x y H Q ∨ rInT K x y H Q
theorem op_in2 {X : Cx} (hu : X.A.units + 65 < cLine) : OpR X (compareOp .In) (rIn2 X.K) := by
  intro pn s0 σ G a b va vb Q J ra rb w
  exact w.elim (fun w => op_in_seq pn s0 σ G a b va vb Q J ra rb w) (fun w => op_inT hu pn s0 σ G a b va vb Q J ra rb w)
theorem hu65 {A : Around} {k : Nat} (hr : Room k A) : A.units + 65 < cLine := by
  have := hr.un
  omega
/-! a value's kind -/
inductive Knd (K : PySem.W.Frag) (H : Hp) : V → String → Prop
  | int (i : Int) : Knd K H (.int i) "int"
  | bl (b : Bool) : Knd K H (.bl b) "bool"
  | str (x : Str) : Knd K H (.str x) "str"
  | non : Knd K H .non "NoneType"
  | tup {a : Addr} {xs : List V} (h : SqT K H a xs) : Knd K H (.ref a) "tuple"
  | lst {a : Addr} {xs : List V} (h : SqL K H a xs) : Knd K H (.ref a) "list"
theorem Knd.ty {K : PySem.W.Frag} {H : Hp} {v : V} {t : String} (h : Knd K H v t) : TyX K H v (.type t) := by
  cases h with
  | int i => exact .base (.int i)
  | bl b => exact .base (.bl b)
  | str x => exact .base (.str x)
  | non => exact .base .non
  | tup h =>
    rcases h with (h | ⟨o, h⟩) | ⟨o, its, n, h1, h2, _⟩
    · exact .base (.tup h)
    · exact .fTuple h
    · exact .kTuple h1 h2
  | lst h =>
    rcases h with (h | ⟨o, h⟩) | ⟨o, its, n, h1, h2, _⟩
    · exact .base (.lst h)
    · exact .base (.frz h)
    · exact .kList h1 h2
/-- isinstance(x, t) -/
theorem isi {K : PySem.W.Frag} {H : Hp} {v : V} {t c : String} {b : Bool} {Q : VK} (h : Knd K H v t) (hk : kitB t c = some b) (q : Q (.bl b) H) : rIsi K [v, .ty c] H Q :=
  ⟨_, _, _, _, _, rfl, .ty c, h.ty, kit_ty hk, q⟩
end Bm
namespace Bm
open PySem PySem.Spec PyProof.Rows L2
/-! slices -/
theorem cut_tail (x : V) (r : List V) : cutV (x :: r) (some 1) none = r := by
  have e : HT.sIx (x :: r).length 0 (some ((1 : Nat) : Int)) = 1 := by
    rw [HT.sIx_nat, List.length_cons]
    omega
  have e1 : HT.sIx (x :: r).length 0 (some 1) = 1 := e
  unfold cutV
  rw [e1, HT.sIx_none, List.length_cons]
  show (r.take (r.length + 1 - 1)) = r
  rw [Nat.add_sub_cancel, List.take_length]
theorem not_whole_tail (x : V) (r : List V) : ¬ (HT.sIx (x :: r).length 0 (some 1) = 0 ∧ HT.sIx (x :: r).length (x :: r).length none = (x :: r).length) := by
  have e : HT.sIx (x :: r).length 0 (some ((1 : Nat) : Int)) = 1 := by
    rw [HT.sIx_nat, List.length_cons]
    omega
  intro z
  have e1 : HT.sIx (x :: r).length 0 (some 1) = 1 := e
  rw [e1] at z
  cases z.1
theorem at0 {x : V} {r : List V} : atI (x :: r) 0 = some x := atI_nat (j := 0) rfl
theorem take_succ' {α : Type} {l : List α} {i : Nat} {x : α} (h : l[i]? = some x) : l.take (i + 1) = l.take i ++ [x] := by
  rw [List.take_succ, h]
  rfl
end Bm
set_option maxHeartbeats 800000
namespace Bm
open PySem PySem.Spec PyProof.Rows L2
/-! the law's state: the script, how many cells are begun, a mixed number, what is left of a cell -/
structure Sk where
  st : Addr
  sc : Addr
  ns : List Int
def St (K : PySem.W.Frag) (H : Hp) (S : Sk) : Prop := S.ns.length ≤ 63 ∧ SqL K H S.sc (S.ns.map V.int) ∧ ∃ a m c : Int, H S.st = some (.lst [.ref S.sc, .int a, .int m, .int c]) ∧ 0 ≤ a ∧ (0 ≤ m ∧ m < 2147483647) ∧ 0 ≤ c
/-- all but the state stays, the state is one -/
structure Kp (K : PySem.W.Frag) (S : Sk) (H H' : Hp) : Prop where
  but : ∀ b o, b ≠ S.st → H b = some o → H' b = some o
  old : St K H S
  st : St K H' S
theorem St.lst {K : PySem.W.Frag} {H : Hp} {S : Sk} (h : St K H S) : ∃ l, H S.st = some (.lst l) := let ⟨_, _, _, _, _, h1, _⟩ := h; ⟨_, h1⟩
theorem St.same {K : PySem.W.Frag} {H H' : Hp} {S : Sk} (h : St K H S) (e : Same H H') : St K H' S := by
  obtain ⟨h0, h1, a, m, c, h2, h3⟩ := h
  exact ⟨h0, e.seq h1, a, m, c, e _ _ h2, h3⟩
theorem Kp.of {K : PySem.W.Frag} {H H' : Hp} {S : Sk} (h : St K H S) (e : Same H H') : Kp K S H H' := ⟨fun b o _ q => e b o q, h, h.same e⟩
theorem Kp.refl {K : PySem.W.Frag} {H : Hp} {S : Sk} (h : St K H S) : Kp K S H H := Kp.of h (Same.refl H)
theorem Kp.trans {K : PySem.W.Frag} {H H1 H2 : Hp} {S : Sk} (a : Kp K S H H1) (b : Kp K S H1 H2) : Kp K S H H2 := ⟨fun c o n q => b.but c o n (a.but c o n q), a.old, b.st⟩
theorem Kp.same {K : PySem.W.Frag} {H H1 H2 : Hp} {S : Sk} (a : Kp K S H H1) (e : Same H1 H2) : Kp K S H H2 := a.trans (Kp.of a.st e)
theorem Kp.tup {K : PySem.W.Frag} {H H' : Hp} {S : Sk} {p : Addr} {xs : List V} (k : Kp K S H H') (h : SqT K H p xs) : SqT K H' p xs := by
  obtain ⟨l, hl⟩ := k.old.lst
  rcases h with (h | ⟨o, h⟩) | h
  · exact .inl (.inl (k.but _ _ (fun z => by rw [z, hl] at h; cases h) h))
  · exact .inl (.inr ⟨o, k.but _ _ (fun z => by rw [z, hl] at h; cases h) h⟩)
  · exact .inr h
theorem Kp.lst {K : PySem.W.Frag} {H H' : Hp} {S : Sk} {p : Addr} {xs : List V} (k : Kp K S H H') (n : p ≠ S.st) (h : SqL K H p xs) : SqL K H' p xs := by
  rcases h with (h | ⟨o, h⟩) | h
  · exact .inl (.inl (k.but _ _ n h))
  · exact .inl (.inr ⟨o, k.but _ _ n h⟩)
  · exact .inr h
theorem Kp.free {K : PySem.W.Frag} {H H' : Hp} {S : Sk} {p : Addr} (k : Kp K S H H') (h : H' p = none) : H p = none := by
  cases q : H p with
  | none => rfl
  | some o =>
    by_cases e : p = S.st
    · obtain ⟨l, hl⟩ := k.st.lst
      rw [e, hl] at h
      cases h
    · rw [k.but p o e q] at h
      cases h
theorem Kp.add {K : PySem.W.Frag} {H H' : Hp} {S : Sk} {p : Addr} {o : HO} (k : Kp K S H H') (h : H' p = none) : Kp K S H (upd H' p o) := k.same (Same.add h)
theorem St.upd {K : PySem.W.Frag} {H : Hp} {S : Sk} {p : Addr} {o : HO} (h : St K H S) (n : p ≠ S.st) (np : ∀ u, H S.sc = some u → S.sc ≠ p) : St K (upd H p o) S := by
  obtain ⟨h0, h1, a, m, c, h2, h3⟩ := h
  refine ⟨h0, ?_, a, m, c, by rw [upd_ne (Ne.symm n)]; exact h2, h3⟩
  rcases h1 with (h | ⟨u, h⟩) | h
  · exact .inl (.inl (by rw [upd_ne (np _ h)]; exact h))
  · exact .inl (.inr ⟨u, by rw [upd_ne (np _ h)]; exact h⟩)
  · exact .inr h
/-- a thing that H does not know may change -/
theorem Kp.mut {K : PySem.W.Frag} {H H' : Hp} {S : Sk} {p : Addr} {o : HO} (k : Kp K S H H') (h : H p = none) : Kp K S H (upd H' p o) := by
  obtain ⟨l, hl⟩ := k.old.lst
  have n : p ≠ S.st := fun z => by
    rw [z, hl] at h
    cases h
  refine ⟨fun b u nb q => by rw [upd_ne (ne_of_none q h)]; exact k.but b u nb q, k.old, ?_⟩
  obtain ⟨h0, h1, h2⟩ := k.old
  obtain ⟨g0, g1, a, m, c, g2, g3⟩ := k.st
  refine ⟨g0, ?_, a, m, c, by rw [upd_ne (Ne.symm n)]; exact g2, g3⟩
  have h1' : SqL K (L2.upd H' p o) S.sc (S.ns.map V.int) := by
    rcases h1 with (h5 | ⟨u, h5⟩) | h5
    · have np : S.sc ≠ p := ne_of_none h5 h
      have ns : S.sc ≠ S.st := fun z => by
        obtain ⟨_, _, a, m, c, g, _⟩ := k.old
        rw [z, g] at h5
        have e := Option.some.inj h5
        cases e2 : S.ns with
        | nil => rw [e2] at e; cases e
        | cons x r => rw [e2] at e; cases e
      exact .inl (.inl (by rw [upd_ne np]; exact k.but _ _ ns h5))
    · have np : S.sc ≠ p := ne_of_none h5 h
      have ns : S.sc ≠ S.st := fun z => by
        rw [z, hl] at h5
        cases h5
      exact .inl (.inr ⟨u, by rw [upd_ne np]; exact k.but _ _ ns h5⟩)
    · exact .inr h5
  exact h1'
theorem Kp.put {K : PySem.W.Frag} {H : Hp} {S : Sk} {a m c : Int} (h : St K H S) (ha : 0 ≤ a) (hm : 0 ≤ m ∧ m < 2147483647) (hc : 0 ≤ c) : Kp K S H (upd H S.st (.lst [.ref S.sc, .int a, .int m, .int c])) := by
  obtain ⟨h0, h1, a0, m0, c0, h2, h3⟩ := id h
  refine ⟨fun b o n q => by rw [upd_ne n]; exact q, h, h0, ?_, a, m, c, upd_same, ha, hm, hc⟩
  rcases h1 with (h5 | ⟨u, h5⟩) | h5
  · have ns : S.sc ≠ S.st := fun z => by
      rw [z, h2] at h5
      have e := Option.some.inj h5
      cases e2 : S.ns with
      | nil => rw [e2] at e; cases e
      | cons x r => rw [e2] at e; cases e
    exact .inl (.inl (by rw [upd_ne ns]; exact h5))
  · have ns : S.sc ≠ S.st := fun z => by
      rw [z, h2] at h5
      cases h5
    exact .inl (.inr ⟨u, by rw [upd_ne ns]; exact h5⟩)
  · exact .inr h5
section
variable {P : Program} {w : World} {K : PySem.W.Frag} {mg : Str → Option Value} {base : Heap} {f : Addr} {fd : FuncData} {dvs : List V}
/-! _law_start -/
def spStart (K : PySem.W.Frag) : Sp := fun vs H Q _ => ∃ (a : Addr) (ns : List Int), vs = [.ref a] ∧ SqL K H a (ns.map V.int) ∧ ns.length ≤ 63 ∧ ∀ p H', H p = none → Same H H' → St K H' ⟨p, a, ns⟩ → Q (.ref p) H'
abbrev N__law_start : List Str := ["_law_script", "_law_mixed", "_law_cell"]
theorem sc__law_start : FnScope ["_law_script", "_law_mixed", "_law_cell"] ["_law_script"] (defScope s__law_start) := ⟨rfl, rfl, rfl, by decide +kernel, rfl, by decide +kernel, by decide +kernel⟩
theorem ok_start (F : FunD K "_law_start" "_law_start" (defArgs s__law_start) (defBody s__law_start) (defScope s__law_start) dvs [] f fd) : FnOk P w K mg base CX0 1 f fd ["_law_script"] (spStart K) := by
  refine F.ok sc__law_start (fun vs H Q E h => ?_) (fun cdv A outer s H vs Q E hr h => ?_)
  · obtain ⟨a, ns, rfl, _⟩ := h
    rfl
  · obtain ⟨a, ns, rfl, hS, h63, q⟩ := h
    refine ⟨_, PSs.nox (pss_cons (ps_set (i := 1) sc__law_start.nd rfl (Or.inl rfl) pe_int)
      (pss_cons (ps_for PassesOwn.never rfl (pi_list (pv 0)) (pg_name (i := 2) sc__law_start.nd rfl (Or.inl rfl))
      (pss_one (ps_set (i := 1) sc__law_start.nd rfl (Or.inl rfl) (pe_op op_modN (pe_op op_add (pe_op op_add (pe_op op_mul (pv 1) pe_int) (pv 2)) pe_int) pe_int))))
      (pss_one (ps_ret (pe_lst (pa_cons (pv 0) (pa_cons pe_int (pa_cons (pv 1) (pa_cons pe_int pa_nil))))))))), ?_⟩
    refine ⟨_, rfl, a, rfl, ⟨_, hS⟩, for_list (K := K) (a := a) (xs := ns.map V.int) (fun i σ H2 => ∃ (m : Int) (v : Option V), σ = [some (.ref a), some (.int m), v] ∧ H2 = H ∧ 0 ≤ m ∧ m < 2147483647)
      ⟨1, none, rfl, rfl, by decide, by decide⟩ (fun i σ H2 _ ⟨_, _, _, e, _⟩ => by rw [e]; exact hS) ?_ ?_⟩
    · rintro i x σ H2 hi ⟨m, v, rfl, rfl, h0, h1⟩
      rw [List.getElem?_map] at hi
      cases e : ns[i]? with
      | none => rw [e] at hi; cases hi
      | some z =>
        rw [e] at hi
        have ez : x = V.int z := (Option.some.inj hi).symm
        subst ez
        refine ⟨_, rfl, _, _, rfl, rfl, .inl ⟨by omega, by omega⟩, _, rfl, _, _, rfl, rfl, _, _, rfl, rfl, _, _, rfl, rfl, (show (2147483647 : Int) ≠ 0 by decide), ?_⟩
        refine ⟨_, _, rfl, rfl, ?_⟩
        rw [Int.fmod_eq_emod_of_nonneg _ (by decide)]
        omega
    · rintro σ H2 ⟨m, v, rfl, rfl, h0, h1⟩
      exact ⟨_, rfl, _, rfl, line5 (by simp), laid fun p H1 hp s1 h2 => q p H1 hp s1 ⟨h63, s1.seq hS, 0, m, 0, h2, by decide, ⟨h0, h1⟩, by decide⟩⟩
/-! _law_drawn -/
def spDrawn (K : PySem.W.Frag) : Sp := fun vs H Q _ => ∃ (S : Sk) (many : Int), vs = [.ref S.st, .int many] ∧ St K H S ∧ 0 < many ∧ many < 1267650600228229401496703205376 ∧ ∀ r H', 0 ≤ r → r < many → Kp K S H H' → Q (.int r) H'
abbrev N__law_drawn : List Str := ["_law_state_here", "_law_many", "_law_found", "_law_cell"]
theorem sc__law_drawn : FnScope ["_law_state_here", "_law_many", "_law_found", "_law_cell"] ["_law_state_here", "_law_many"] (defScope s__law_drawn) := ⟨rfl, rfl, rfl, by decide +kernel, rfl, by decide +kernel, by decide +kernel⟩
theorem ok_drawn (F : FunD K "_law_drawn" "_law_drawn" (defArgs s__law_drawn) (defBody s__law_drawn) (defScope s__law_drawn) dvs [] f fd) (g_len : mg "len" = none) : FnOk P w K mg base CX0 1 f fd ["_law_state_here", "_law_many"] (spDrawn K) := by
  refine F.ok sc__law_drawn (fun vs H Q E h => ?_) (fun cdv A outer s H vs Q E hr h => ?_)
  · obtain ⟨S, many, rfl, _⟩ := h
    rfl
  · obtain ⟨S, many, rfl, hst, hm0, hm1, q⟩ := h
    obtain ⟨h3, h2, a, m, c, h1, ha, hm, hc⟩ := id hst
    refine ⟨_, PSs.nox (pss_cons (ps_if (pt_cmpR op_gt (pe_ix ix_list (pv 0) pe_int (fun _ _ => rfl)) pe_int (nomark _)) (pss_cons (ps_set (i := 2) sc__law_drawn.nd rfl (Or.inl rfl) (pe_op op_modN (pe_ix ix_list (pv 0) pe_int (fun _ _ => rfl)) (pv 1)))
      (pss_cons (ps_asg (pe_op op_fdivW (pe_ix ix_list (pv 0) pe_int (fun _ _ => rfl)) (pv 1)) (pg_sub (pv 0) pe_int set_list))
      (pss_one (ps_ret (pv 2))))) pss_nil)
      (pss_cons (ps_asg (pe_op op_add (pe_ix ix_list (pv 0) pe_int (fun _ _ => rfl)) pe_int) (pg_sub (pv 0) pe_int set_list))
      (pss_cons (ps_if (pt_cmpR op_le (pe_ix ix_list (pv 0) pe_int (fun _ _ => rfl)) (pe_callB call_len rfl g_len boot_len (pa_cons (pe_ix ix_list (pv 0) pe_int (fun _ _ => rfl)) pa_nil)) (nomark _)) (pss_cons (ps_set (i := 3) sc__law_drawn.nd rfl (Or.inl rfl) (pe_ix ix_list (pe_ix ix_list (pv 0) pe_int (fun _ _ => rfl)) (pe_op op_sub (pe_ix ix_list (pv 0) pe_int (fun _ _ => rfl)) pe_int) (fun _ _ => rfl)))
      (pss_cons (ps_asg (pe_ifExp (pt_cmpR op_ge (pv 3) (pe_op op_pow pe_int pe_int) (nomark _)) (pe_op op_fdivW (pv 3) (pv 1)) pe_int) (pg_sub (pv 0) pe_int set_list))
      (pss_one (ps_ret (pe_op op_modN (pv 3) (pv 1)))))) pss_nil)
      (pss_cons (ps_asg (pe_op op_modN (pe_op op_add (pe_op op_mul (pe_ix ix_list (pv 0) pe_int (fun _ _ => rfl)) pe_int) pe_int) pe_int) (pg_sub (pv 0) pe_int set_list))
      (pss_one (ps_ret (pe_op op_modN (pe_op op_fdivW (pe_ix ix_list (pv 0) pe_int (fun _ _ => rfl)) pe_int) (pv 1)))))))), ?_⟩
    have hw : many.natAbs < 2 ^ 100 := by
      have e : (2 : Nat) ^ 100 = 1267650600228229401496703205376 := by decide +kernel
      omega
    have fm : ∀ x : Int, 0 ≤ x.fmod many ∧ x.fmod many < many := fun x => by
      rw [Int.fmod_eq_emod_of_nonneg _ (by omega)]
      exact ⟨Int.emod_nonneg _ (by omega), Int.emod_lt_of_pos _ hm0⟩
    have at_ : ∀ (y : Addr) (x0 x1 x2 x3 : V), atI [x0, x1, x2, x3] 3 = some x3 ∧ atI [x0, x1, x2, x3] 2 = some x2 ∧ atI [x0, x1, x2, x3] 1 = some x1 ∧ atI [x0, x1, x2, x3] 0 = some x0 := fun y x0 x1 x2 x3 => ⟨atI_nat (j := 3) rfl, atI_nat (j := 2) rfl, atI_nat (j := 1) rfl, atI_nat (j := 0) rfl⟩
    refine ⟨_, rfl, _, _, _, _, rfl, rfl, SqL.of h1, (at_ 0 _ _ _ _).1, _, _, rfl, rfl, _, rfl, ?_⟩
    by_cases hc0 : 0 < c
    · rw [decide_eq_true hc0]
      refine iteT ?_
      refine ⟨_, rfl, _, _, _, _, rfl, rfl, SqL.of h1, (at_ 0 _ _ _ _).1, _, rfl, _, _, rfl, rfl, by omega, ?_⟩
      refine ⟨_, rfl, _, _, _, _, rfl, rfl, SqL.of h1, (at_ 0 _ _ _ _).1, _, rfl, _, _, rfl, rfl, wide_div hm0 hw (by decide) (by decide), _, rfl, _, _, _, 3, rfl, rfl, h1, rfl, ?_⟩
      refine ⟨_, rfl, q _ _ (fm c).1 (fm c).2 (Kp.put hst ha hm ?_)⟩
      exact Int.ediv_nonneg hc (by omega)
    · rw [decide_eq_false hc0]
      refine iteF ?_
      refine ⟨_, rfl, _, _, _, _, rfl, rfl, SqL.of h1, (at_ 0 _ _ _ _).2.2.1, _, _, rfl, rfl, _, rfl, _, _, _, 1, rfl, rfl, h1, rfl, ?_⟩
      have k1 : Kp K S H (upd H S.st (.lst [.ref S.sc, .int (a + 1), .int m, .int c])) := Kp.put hst (by omega) hm hc
      have e1 : (upd H S.st (.lst [.ref S.sc, .int (a + 1), .int m, .int c])) S.st = some (.lst [.ref S.sc, .int (a + 1), .int m, .int c]) := upd_same
      show tSeq _ _ _ _ (upd H S.st (.lst [.ref S.sc, .int (a + 1), .int m, .int c]))
      generalize upd H S.st (.lst [.ref S.sc, .int (a + 1), .int m, .int c]) = H1 at k1 e1 ⊢
      refine ⟨_, rfl, _, _, _, _, rfl, rfl, SqL.of e1, (at_ 0 _ _ _ _).2.2.1, _, rfl, _, _, _, _, rfl, rfl, SqL.of e1, (at_ 0 _ _ _ _).2.2.2, _, _, rfl, .inl ⟨_, k1.st.2.1, rfl⟩, _, _, rfl, rfl, _, rfl, ?_⟩
      by_cases hl : a + 1 ≤ ((S.ns.map V.int).length : Int)
      · rw [decide_eq_true hl]
        refine iteT ?_
        rw [List.length_map] at hl
        have hat : atI (S.ns.map V.int) (a + 1 - 1) = some (.int (S.ns.getD a.toNat 0)) := by
          have e : a + 1 - 1 = ((a.toNat : Nat) : Int) := by omega
          rw [e]
          refine atI_nat ?_
          rw [List.getElem?_map, List.getD_eq_getElem?_getD]
          have : a.toNat < S.ns.length := by omega
          rw [List.getElem?_eq_getElem this]
          rfl
        generalize S.ns.getD a.toNat 0 = x at hat
        refine ⟨_, rfl, _, _, _, _, rfl, rfl, SqL.of e1, (at_ 0 _ _ _ _).2.2.2, _, rfl, _, _, _, _, rfl, rfl, SqL.of e1, (at_ 0 _ _ _ _).2.2.1, _, _, rfl, rfl, _, _, _, _, rfl, rfl, k1.st.2.1, hat, ?_⟩
        refine ⟨_, rfl, _, _, rfl, rfl, ⟨by decide, by decide, by decide⟩, _, _, rfl, rfl, _, rfl, ?_⟩
        have fin : ∀ z : Int, 0 ≤ z → Kp K S H (upd H1 S.st (.lst [.ref S.sc, .int (a + 1), .int m, .int z])) := fun z hz => k1.trans (Kp.put k1.st (by omega) hm hz)
        by_cases hx : (10 : Int) ^ (18 : Int).toNat ≤ x
        · rw [decide_eq_true hx]
          refine iteT ?_
          refine ⟨_, rfl, _, rfl, _, _, rfl, rfl, wide_div hm0 hw (by decide) (by decide), _, rfl, _, _, _, 3, rfl, rfl, e1, rfl, ?_⟩
          refine ⟨_, rfl, _, rfl, _, _, rfl, rfl, by omega, q _ _ (fm x).1 (fm x).2 (fin _ ?_)⟩
          exact Int.ediv_nonneg (Int.le_trans (by decide) hx) (by omega)
        · rw [decide_eq_false hx]
          refine iteF ?_
          refine ⟨_, rfl, _, _, _, 3, rfl, rfl, e1, rfl, ?_⟩
          exact ⟨_, rfl, _, rfl, _, _, rfl, rfl, by omega, q _ _ (fm x).1 (fm x).2 (fin _ (by decide))⟩
      · rw [decide_eq_false hl]
        refine iteF ?_
        refine ⟨_, rfl, _, _, _, _, rfl, rfl, SqL.of e1, (at_ 0 _ _ _ _).2.1, _, _, rfl, rfl, .inl ⟨by omega, by omega⟩, _, _, rfl, rfl, _, _, rfl, rfl, (show (2147483647 : Int) ≠ 0 by decide), _, rfl, _, _, _, 2, rfl, rfl, e1, rfl, ?_⟩
        refine ⟨_, rfl, _, _, _, _, rfl, rfl, SqL.of upd_same, (at_ 0 _ _ _ _).2.1, _, _, rfl, rfl, wide_div (by decide) (b := 3) (by decide) (by decide) (by decide), _, rfl, _, _, rfl, rfl, by omega, ?_⟩
        refine q _ _ (fm _).1 (fm _).2 (k1.trans (Kp.put k1.st (by omega) ?_ hc))
        show 0 ≤ (m * 48271 + 11).fmod 2147483647 ∧ (m * 48271 + 11).fmod 2147483647 < 2147483647
        rw [Int.fmod_eq_emod_of_nonneg _ (by decide)]
        omega
end
end Bm
set_option maxHeartbeats 400000
namespace Bm
open PySem PySem.Spec PyProof.Rows L2
/-! what a pattern gives -/
def PEv (t : TPt) (v : V) (H : Hp) (r : Option (List (Nat × V))) : Prop := ∀ k : PK, k r H → t v H k
def PsEv (t : List V → Hp → PK → Prop) (vs : List V) (H : Hp) (r : Option (List (Nat × V))) : Prop := ∀ k : PK, k r H → t vs H k
section
variable {K : PySem.W.Frag} {H : Hp} {v : V} {t : TPt} {u : List V → Hp → PK → Prop} {vs : List V} {a : Addr} {n : Nat} {D : Ends} {σ : L2.St} {b : TS} {cs : TCs}
theorem pev_yes {c : V} (h : scal c c = true) : PEv (tPv c) c H (some []) := fun k q => ⟨h, by rw [if_pos rfl]; exact q⟩
theorem pev_no {c : V} (h : scal v c = true) (hn : v ≠ c) : PEv (tPv c) v H none := fun k q => ⟨h, by rw [if_neg hn]; exact q⟩
theorem pev_str {x c : Str} (hn : x ≠ c) : PEv (tPv (.str c)) (.str x) H none := pev_no rfl fun z => hn (V.str.inj z)
theorem pev_name {i : Nat} : PEv (tPn i) v H (some [(i, v)]) := fun k q => q
theorem pev_wild : PEv tPw v H (some []) := fun k q => q
theorem psev_nil : PsEv tPnil [] H (some []) := fun k q => ⟨rfl, q⟩
theorem psev_cons {x y : List (Nat × V)} (h1 : PEv t v H (some x)) (h2 : PsEv u vs H (some y)) : PsEv (tPcons t u) (v :: vs) H (some (x ++ y)) := fun k q => ⟨v, vs, rfl, h1 _ (h2 _ q)⟩
theorem psev_no (h1 : PEv t v H none) : PsEv (tPcons t u) (v :: vs) H none := fun k q => ⟨v, vs, rfl, h1 _ q⟩
theorem psev_skip {x : List (Nat × V)} (h1 : PEv t v H (some x)) (h2 : PsEv u vs H none) : PsEv (tPcons t u) (v :: vs) H none := fun k q => ⟨v, vs, rfl, h1 _ (h2 _ q)⟩
theorem pev_seq {r : Option (List (Nat × V))} (hs : SqT K H a vs) (hl : vs.length = n) (h : PsEv u vs H r) : PEv (tPseq K n u) (.ref a) H r := fun k q => ⟨a, vs, rfl, hs, by rw [if_pos hl]; exact h k q⟩
theorem pev_len (hs : SqT K H a vs) (hl : vs.length ≠ n) : PEv (tPseq K n u) (.ref a) H none := fun k q => ⟨a, vs, rfl, hs, by rw [if_neg hl]; exact q⟩
theorem cs_yes {x : List (Nat × V)} (h : PEv t v H (some x)) (q : b D (setAll x σ) H) : tCs t b cs v D σ H := h _ q
theorem cs_no (h : PEv t v H none) (q : cs v D σ H) : tCs t b cs v D σ H := h _ q
theorem pev_first {r : Option (List (Nat × V))} {x : List (Nat × V)} (h : PEv t v H (some x)) (t2 : TPt) : PEv (tPfirst t t2) v H (some x) := fun k q => h _ q
theorem pev_next {t2 : TPt} {r : Option (List (Nat × V))} (h : PEv t v H none) (h2 : PEv t2 v H r) : PEv (tPfirst t t2) v H r := fun k q => h _ (h2 k q)
theorem pev_or {x : List (Nat × V)} (h : PEv t v H (some x)) : PEv (tPor t) v H (some []) := fun k q => h _ q
theorem pev_orN (h : PEv t v H none) : PEv (tPor t) v H none := fun k q => h _ q
end
end Bm
set_option maxHeartbeats 400000
namespace Bm
open PySem PySem.Spec PyProof.Rows L2
section
variable {P : Program} {w : World} {K : PySem.W.Frag} {mg : Str → Option Value} {base : Heap} {f : Addr} {fd : FuncData} {dvs : List V}
abbrev FnP (K : PySem.W.Frag) (x : Str) (st : Stmt) (dvs : List V) (f : Addr) (fd : FuncData) : Prop := FunD K x x (defArgs st) (defBody st) (defScope st) dvs [] f fd
/-! fields -/
theorem or3 {f a b : Int} (hf : 0 ≤ f ∧ f < 16) (ha : 0 ≤ a ∧ a < 8) (hb : 0 ≤ b ∧ b < 8) : Builtin.bitOr (Builtin.bitOr (f * 2 ^ 12) (a * 2 ^ 9)) (b * 2 ^ 6) = f * 4096 + a * 512 + b * 64 := by
  have e0 : f * 2 ^ 12 = (f * 8) * 512 := by omega
  have e1 : Builtin.bitOr (f * 2 ^ 12) (a * 2 ^ 9) = f * 4096 + a * 512 := by
    have e := or_side (x := f) (y := a * 2 ^ 9) 12 (by omega) (by omega) (by omega)
    rw [e]
    omega
  rw [e1]
  have e2 : f * 4096 + a * 512 = (f * 8 + a) * 512 := by omega
  rw [e2, or9 (by omega) (by omega) (by omega)]
  omega
def spFields : Sp := fun vs H Q _ => ∃ f a b : Int, vs = [.int f, .int a, .int b] ∧ (0 ≤ f ∧ f < 16) ∧ (0 ≤ a ∧ a < 8) ∧ (0 ≤ b ∧ b < 8) ∧ Q (.int (f * 4096 + a * 512 + b * 64)) H
theorem cpow {i j : Int} (h : 0 ≤ i ∧ i < 65536) (hj : 0 ≤ j ∧ j ≤ 64) : 0 ≤ j ∧ j ≤ 1000000 ∧ i.natAbs < 2 ^ 64 := ⟨hj.1, by omega, by omega⟩
abbrev KnF (P : Program) (w : World) (K : PySem.W.Frag) (mg : Str → Option Value) (base : Heap) (dvs : List V) : Prop := Kn P w K mg base CX0 1 "fields" ["form", "first", "second"] dvs spFields
/-! is_reached -/
def spReached : Sp := fun vs H Q _ => ∃ p g : Int, vs = [.int p, .int g] ∧ Q (.bl (decide (near g p))) H
abbrev KnRe (P : Program) (w : World) (K : PySem.W.Frag) (mg : Str → Option Value) (base : Heap) : Prop := Kn P w K mg base CX0 1 "is_reached" ["place", "goal"] [] spReached
/-! going_words -/
def spGoing : Sp := fun vs H Q _ => ∃ (nf k g : Int) (far : Bool) (p : Int), vs = [.int nf, .int k, .int g, .bl far, .int p] ∧ (0 ≤ nf ∧ nf < 15) ∧ (0 ≤ k ∧ k < 8) ∧
  (far = true → ∀ q H', Same H H' → H' q = some (.tup [.int ((nf + 1) * 4096 + k * 512), .int g]) → Q (.ref q) H') ∧
  (far = false → near g p → ∀ q H', Same H H' → H' q = some (.tup [.int (nf * 4096 + k * 512 + (g - p - 1) % 32)]) → Q (.ref q) H') ∧ (far = false → ¬ near g p → Q .non H)
end
end Bm
set_option maxHeartbeats 800000
namespace Bm
open PySem PySem.Spec PyProof.Rows L2
section
variable {P : Program} {w : World} {K : PySem.W.Frag} {mg : Str → Option Value} {base : Heap} {f : Addr} {fd : FuncData} {dvs : List V} {odd : List Str}
/-! only_word -/
def spOnly (K : PySem.W.Frag) : Sp := fun vs H Q _ => ∃ (a : Addr) (d : De), vs = [.ref a] ∧ SqT K H a d.vals ∧ d.ok ∧ d.goes = false ∧ Q (.int d.word) H
abbrev KnO (P : Program) (w : World) (K : PySem.W.Frag) (mg : Str → Option Value) (base : Heap) : Prop := Kn P w K mg base CX0 2 "only_word" ["deed"] [] (spOnly K)
/-! words_of -/
def vInts (l : List Int) : List V := l.map V.int
def spWordsOf (K : PySem.W.Frag) : Sp := fun vs H Q _ => ∃ (a : Addr) (d : De) (p : Int), vs = [.ref a, .int p] ∧ SqT K H a d.vals ∧ d.ok ∧
  (d.reached p → ∀ q H', Same H H' → H' q = some (.tup (vInts (d.words p))) → Q (.ref q) H') ∧ (¬ d.reached p → Q .non H)
abbrev KnG (P : Program) (w : World) (K : PySem.W.Frag) (mg : Str → Option Value) (base : Heap) : Prop := Kn P w K mg base CX0 2 "going_words" ["near_form", "when", "goal", "far", "place"] [] spGoing
end
end Bm
set_option maxHeartbeats 800000
namespace Bm
open PySem PySem.Spec PyProof.Rows L2
/-! values that a deed may be told with: numbers, truths, texts, the empty tuple -/
inductive OkV (K : PySem.W.Frag) (H : Hp) : V → Prop
  | int (i : Int) : OkV K H (.int i)
  | bl (b : Bool) : OkV K H (.bl b)
  | str (x : Str) : OkV K H (.str x)
  | unit {a : Addr} (h : SqT K H a []) : OkV K H (.ref a)
theorem OkV.same {K : PySem.W.Frag} {H H' : Hp} {v : V} (e : Same H H') (h : OkV K H v) : OkV K H' v := by
  cases h with
  | int i => exact .int i
  | bl b => exact .bl b
  | str x => exact .str x
  | unit h => exact .unit (Same.tup e h)
def numB (v : V) (lo hi : Int) : Bool := match v with
  | .int i => decide (lo ≤ i) && decide (i ≤ hi)
  | _ => false
def isBl : V → Bool
  | .bl _ => true
  | _ => false
def isTm : V → Bool
  | .str s => TM.any fun z => z == s
  | _ => false
def partB (kind : Str) (v : V) : Bool := if kind = "when" then isTm v else if kind = "far" then isBl v else match ST.lookup kind with
  | some r => numB v r.1 r.2
  | none => false
def deedB : List V → Bool
  | .str z :: r => match PT.lookup z with
    | some ks => decide (r.length = ks.length) && ((ks.zip r).all fun p => partB p.1 p.2)
    | none => false
  | _ => false
section
variable {P : Program} {w : World} {K : PySem.W.Frag} {mg : Str → Option Value} {base : Heap} {f : Addr} {fd : FuncData} {dvs : List V} {odd : List Str}
/-! is_number -/
def spNum (K : PySem.W.Frag) : Sp := fun vs H Q _ => ∃ (v : V) (lo hi : Int), vs = [v, .int lo, .int hi] ∧ OkV K H v ∧ Q (.bl (numB v lo hi)) H
abbrev N_is_number : List Str := ["thing", "least", "most"]
theorem sc_is_number : FnScope ["thing", "least", "most"] ["thing", "least", "most"] (defScope s_is_number) := ⟨rfl, rfl, rfl, by decide +kernel, rfl, by decide +kernel, by decide +kernel⟩
theorem ok_num (F : FnP K "is_number" s_is_number dvs f fd) (g_isinstance : mg "isinstance" = none) (g_bool : mg "bool" = none) (g_int : mg "int" = none) : FnOk P w K mg base CX0 1 f fd ["thing", "least", "most"] (spNum K) := by
  refine F.ok sc_is_number (fun vs H Q E h => ?_) (fun cdv A outer s H vs Q E hr h => ?_)
  · obtain ⟨v, lo, hi, rfl, _⟩ := h
    rfl
  · obtain ⟨v, lo, hi, rfl, hv, q⟩ := h
    refine ⟨_, PSs.nox (pss_cons (ps_if (PW.pt (pw_or (pt_val (pe_callB call_isi rfl g_isinstance (by decide +kernel) (pa_cons (pv 0) (pa_cons (pe_bltn (v := .ty "bool") rfl g_bool (by decide +kernel) rfl) pa_nil)))) (pw_or1 (pt_not (pt_val (pe_callB call_isi rfl g_isinstance (by decide +kernel) (pa_cons (pv 0) (pa_cons (pe_bltn (v := .ty "int") rfl g_int (by decide +kernel) rfl) pa_nil)))))))) (pss_one (ps_ret pe_bl)) pss_nil)
      (pss_one (ps_ret (pe_chain op_le op_le (pv 1) (pv 0) (pv 2))))), ?_⟩
    refine ⟨_, rfl, ?_⟩
    cases hv with
    | int i =>
      refine ⟨_, _, _, _, _, rfl, .ty _, Knd.ty (.int i), kit_ty (r := false) (by decide +kernel), _, rfl, iteF ⟨_, rfl, _, _, _, _, _, rfl, .ty _, Knd.ty (.int i), kit_ty (r := true) (by decide +kernel), _, rfl, iteF ?_⟩⟩
      refine ⟨_, rfl, _, rfl, _, _, rfl, rfl, _, rfl, ?_⟩
      by_cases c : lo ≤ i
      · rw [decide_eq_true c]
        refine iteT ⟨_, rfl, _, _, rfl, rfl, ?_⟩
        have e : numB (.int i) lo hi = decide (i ≤ hi) := by
          show (decide (lo ≤ i) && decide (i ≤ hi)) = decide (i ≤ hi)
          rw [decide_eq_true c, Bool.true_and]
        rw [e] at q
        exact q
      · rw [decide_eq_false c]
        have e : numB (.int i) lo hi = false := by
          show (decide (lo ≤ i) && decide (i ≤ hi)) = false
          rw [decide_eq_false c, Bool.false_and]
        rw [e] at q
        exact iteF q
    | bl b => exact ⟨_, _, _, _, _, rfl, .ty _, Knd.ty (.bl b), kit_ty (r := true) (by decide +kernel), _, rfl, iteT q⟩
    | str x => exact ⟨_, _, _, _, _, rfl, .ty _, Knd.ty (.str x), kit_ty (r := false) (by decide +kernel), _, rfl, iteF ⟨_, rfl, _, _, _, _, _, rfl, .ty _, Knd.ty (.str x), kit_ty (r := false) (by decide +kernel), _, rfl, iteT q⟩⟩
    | unit h => exact ⟨_, _, _, _, _, rfl, .ty _, Knd.ty (.tup h), kit_ty (r := false) (by decide +kernel), _, rfl, iteF ⟨_, rfl, _, _, _, _, _, rfl, .ty _, Knd.ty (.tup h), kit_ty (r := false) (by decide +kernel), _, rfl, iteT q⟩⟩
abbrev KnN (P : Program) (w : World) (K : PySem.W.Frag) (mg : Str → Option Value) (base : Heap) : Prop := Kn P w K mg base CX0 1 "is_number" ["thing", "least", "most"] [] (spNum K)
/-! is_part -/
theorem tm_shaped : SeqAt.shaped (.tuple (TM.map PyData.str)) = true := by decide +kernel
theorem dpAll_strs {H : Hp} : ∀ l : List Str, DpAll K H (l.map V.str) (l.map PyData.str)
  | [] => .nil
  | x :: l => .cons (.str x) (dpAll_strs l)
theorem tm_in {H : Hp} {v : V} {p : Addr} {Q : VK} (h : OkV K H v) (hp : SqT K H p (TM.map V.str)) (q : Q (.bl (isTm v)) H) : rIn2 K v (.ref p) H Q := by
  cases h with
  | int i => exact .inl ⟨p, _, rfl, .inr hp, rfl, flat_strs TM, q⟩
  | bl b => exact .inl ⟨p, _, rfl, .inr hp, rfl, flat_strs TM, by cases b <;> exact q⟩
  | str x =>
    refine .inl ⟨p, _, rfl, .inr hp, rfl, flat_strs TM, ?_⟩
    have e : inV (.str x) (TM.map V.str) = isTm (.str x) := by
      unfold inV isTm
      rw [List.any_map]
      rfl
    show Q (.bl (inV (.str x) (TM.map V.str))) H
    rw [e]
    exact q
  | unit h =>
    refine .inr ⟨.tuple [], _, .tup h .nil, .tup hp (dpAll_strs TM), by decide +kernel, tm_shaped, ?_⟩
    exact q
def spPart (K : PySem.W.Frag) : Sp := fun vs H Q _ => ∃ (z : Str) (v : V), vs = [.str z, v] ∧ OkV K H v ∧ (z = "when" ∨ z = "far" ∨ ∃ r ∈ ST, r.1 = z) ∧ Q (.bl (partB z v)) H
abbrev N_is_part : List Str := ["kind", "thing", "least", "most"]
theorem sc_is_part : FnScope ["kind", "thing", "least", "most"] ["kind", "thing"] (defScope s_is_part) := ⟨rfl, rfl, rfl, by decide +kernel, rfl, by decide +kernel, by decide +kernel⟩
theorem st_at : ∀ r ∈ ST, ST.lookup r.1 = some r.2 ∧ r.1 ≠ "when" ∧ r.1 ≠ "far" := by decide +kernel
theorem ok_part (F : FnP K "is_part" s_is_part dvs f fd) (C : Con w K mg odd) (g_isinstance : mg "isinstance" = none) (g_bool : mg "bool" = none) (k_is_number : KnN P w K mg base) : FnOk P w K mg base CX0 2 f fd ["kind", "thing"] (spPart K) := by
  refine F.ok sc_is_part (fun vs H Q E h => ?_) (fun cdv A outer s H vs Q E hr h => ?_)
  · obtain ⟨z, v, rfl, _⟩ := h
    rfl
  · obtain ⟨z, v, rfl, hv, hz, q⟩ := h
    have g_TIMES := C.g_TIMES
    have g_SPANS := C.g_SPANS
    obtain ⟨es, n, D⟩ := C.spans
    refine ⟨_, PSs.nox (pss_cons (ps_if (pt_cmpR op_eq (pv 0) pe_str (nomark _)) (pss_one (ps_ret (pe_cmpR (op_in2 (hu65 hr)) (pv 1) (pe_glob (v := .ref (He.ga K "TIMES")) rfl g_TIMES rfl) rfl))) pss_nil)
      (pss_cons (ps_if (pt_cmpR op_eq (pv 0) pe_str (nomark _)) (pss_one (ps_ret (pe_callB call_isi rfl g_isinstance (by decide +kernel) (pa_cons (pv 1) (pa_cons (pe_bltn (v := .ty "bool") rfl g_bool (by decide +kernel) rfl) pa_nil))))) pss_nil)
      (pss_cons (ps_asg (pe_ix ix_kdict (pe_glob (v := .ref (He.ga K "SPANS")) rfl g_SPANS rfl) (pv 0) (fun _ _ => rfl)) (pg_tup rfl (pgs_cons (pg_name (i := 2) sc_is_part.nd rfl (Or.inl rfl)) (pgs_cons (pg_name (i := 3) sc_is_part.nd rfl (Or.inl rfl)) pgs_nil))))
      (pss_one (ps_ret (pk k_is_number hr (by decide) rfl pass0 (pa_cons (pv 1) (pa_cons (pv 2) (pa_cons (pv 3) pa_nil))))))))), ?_⟩
    refine ⟨_, rfl, rfl, _, rfl, ?_⟩
    by_cases h1 : z = "when"
    · subst h1
      refine iteT ?_
      have e : partB "when" v = isTm v := if_pos rfl
      rw [e] at q
      exact ⟨_, rfl, tm_in hv (C.tm H).1 q⟩
    · rw [decide_eq_false (fun e => h1 (V.str.inj e))]
      refine iteF ⟨_, rfl, rfl, _, rfl, ?_⟩
      by_cases h2 : z = "far"
      · subst h2
        refine iteT ⟨_, rfl, ?_⟩
        have e : partB "far" v = isBl v := (if_neg (by decide +kernel)).trans (if_pos rfl)
        rw [e] at q
        cases hv with
        | int i => exact ⟨_, _, _, _, _, rfl, .ty _, Knd.ty (.int i), kit_ty (r := false) (by decide +kernel), q⟩
        | bl b => exact ⟨_, _, _, _, _, rfl, .ty _, Knd.ty (.bl b), kit_ty (r := true) (by decide +kernel), q⟩
        | str x => exact ⟨_, _, _, _, _, rfl, .ty _, Knd.ty (.str x), kit_ty (r := false) (by decide +kernel), q⟩
        | unit h => exact ⟨_, _, _, _, _, rfl, .ty _, Knd.ty (.tup h), kit_ty (r := false) (by decide +kernel), q⟩
      · rw [decide_eq_false (fun e => h2 (V.str.inj e))]
        refine iteF ?_
        obtain ⟨r, hr1, rfl⟩ : ∃ r ∈ ST, r.1 = z := by
          rcases hz with e | e | e
          · exact absurd e h1
          · exact absurd e h2
          · exact e
        obtain ⟨t, e1, e2⟩ := C.span r hr1
        refine ⟨_, rfl, _, _, .ref t, rfl, rfl, ⟨es, n, _, D.at_, D.lit, e1, rfl⟩, t, _, rfl, e2 H, rfl, _, _, rfl, _, _, rfl, rfl, ?_⟩
        refine ⟨_, rfl, _, rfl, _, rfl, v, r.2.1, r.2.2, rfl, hv, ?_⟩
        have e : partB r.1 v = numB v r.2.1 r.2.2 := by
          unfold partB
          rw [if_neg h1, if_neg h2, (st_at r hr1).1]
        rw [← e]
        exact q
end
end Bm
set_option maxHeartbeats 800000
namespace Bm
open PySem PySem.Spec PyProof.Rows L2
section
variable {P : Program} {w : World} {K : PySem.W.Frag} {mg : Str → Option Value} {base : Heap} {f : Addr} {fd : FuncData} {dvs : List V} {odd : List Str}
/-! is_deed -/
abbrev KnP (P : Program) (w : World) (K : PySem.W.Frag) (mg : Str → Option Value) (base : Heap) : Prop := Kn P w K mg base CX0 2 "is_part" ["kind", "thing"] [] (spPart K)
def spDeed (K : PySem.W.Frag) (odd : List Str) : Sp := fun vs H Q _ => ∃ (a : Addr) (xs : List V), vs = [.ref a] ∧ SqT K H a xs ∧ (∀ x ∈ xs, OkV K H x) ∧ (∀ z r, xs = .str z :: r → (∃ ks, (z, ks) ∈ PT) ∨ z ∈ odd) ∧
  ∀ H', Same H H' → Q (.bl (deedB xs)) H'
abbrev N_is_deed : List Str := ["thing", "name", "kinds", "kind", "part"]
theorem sc_is_deed : FnScope ["thing", "name", "kinds", "kind", "part"] ["thing"] (defScope s_is_deed) := ⟨rfl, rfl, rfl, by decide +kernel, rfl, by decide +kernel, by decide +kernel⟩
theorem pt_at : ∀ r ∈ PT, PT.lookup r.1 = some r.2 := by decide +kernel
theorem pt_len : ∀ r ∈ PT, r.2.length ≤ 3 := by decide +kernel
theorem line_lt {n : Nat} (h : n < 100000) : n < sizeLine := Nat.lt_of_lt_of_le h (by decide)
theorem pt_kinds : ∀ r ∈ PT, ∀ z ∈ r.2, z = "when" ∨ z = "far" ∨ ∃ r ∈ ST, r.1 = z := by decide +kernel
theorem ok_deed (F : FnP K "is_deed" s_is_deed dvs f fd) (C : Con w K mg odd) (hodd : ∀ x ∈ odd, PT.lookup x = none) (g_isinstance : mg "isinstance" = none) (g_tuple : mg "tuple" = none) (g_str : mg "str" = none) (g_len : mg "len" = none)
    (g_all : mg "all" = none) (g_zip : mg "zip" = none) (k_is_part : KnP P w K mg base) : FnOk P w K mg base CX0 3 f fd ["thing"] (spDeed K odd) := by
  refine F.ok sc_is_deed (fun vs H Q E h => ?_) (fun cdv A outer s H vs Q E hr h => ?_)
  · obtain ⟨a, xs, rfl, _⟩ := h
    rfl
  · obtain ⟨a, xs, rfl, hS, hok, hodd', q⟩ := h
    have g_PARTS := C.g_PARTS
    obtain ⟨es, n, D_PARTS⟩ := C.parts
    refine ⟨_, PSs.nox (pss_cons (ps_if (PW.pt (pw_or (pt_not (pt_val (pe_callB call_isi rfl g_isinstance (by decide +kernel) (pa_cons (pv 0) (pa_cons (pe_bltn (v := .ty "tuple") rfl g_tuple (by decide +kernel) rfl) pa_nil))))) (pw_or1 (pt_cmpR op_eq (pe_callB call_len rfl g_len boot_len (pa_cons (pv 0) pa_nil)) pe_int (nomark _))))) (pss_one (ps_ret pe_bl)) pss_nil)
      (pss_cons (ps_set (i := 1) sc_is_deed.nd rfl (Or.inl rfl) (pe_ix ix_tup (pv 0) pe_int (fun _ _ => rfl)))
      (pss_cons (ps_if (PW.pt (pw_or (pt_not (pt_val (pe_callB call_isi rfl g_isinstance (by decide +kernel) (pa_cons (pv 1) (pa_cons (pe_bltn (v := .ty "str") rfl g_str (by decide +kernel) rfl) pa_nil))))) (pw_or1 (pt_cmpR (op_notIn_kd D_PARTS) (pv 1) (pe_glob (v := .ref (He.ga K "PARTS")) rfl g_PARTS rfl) rfl)))) (pss_one (ps_ret pe_bl)) pss_nil)
      (pss_cons (ps_set (i := 2) sc_is_deed.nd rfl (Or.inl rfl) (pe_ix ix_kdict (pe_glob (v := .ref (He.ga K "PARTS")) rfl g_PARTS rfl) (pv 1) (fun _ _ => rfl)))
      (pss_cons (ps_if (pt_cmpR op_ne (pe_callB call_len rfl g_len boot_len (pa_cons (pv 0) pa_nil)) (pe_op op_add (pe_callB call_len rfl g_len boot_len (pa_cons (pv 2) pa_nil)) pe_int) (nomark _)) (pss_one (ps_ret pe_bl)) pss_nil)
      (pss_one (ps_ret (pe_callB (cr_all rfl) rfl g_all (by decide +kernel) (pa_cons (pe_lc (own := [("kind", 3), ("part", 4)]) (g := gTup K 2 (gCons (gName 3) (gCons (gName 4) (gNil)))) rfl sc_is_deed.nd (RZ.pi_zipA rfl g_zip (pa_cons (pv 2) (pa_cons (pe_slice sl_tupA (pv 0) (po_some pe_int) po_none) pa_nil))) (blkOk_by (own := [("kind", 3), ("part", 4)]) (N := N_is_deed) (sc := defScope s_is_deed) (by decide +kernel)) (fun _ _ _ _ _ => (pg_tup rfl (pgs_cons (pg_name (i := 3) sc_is_deed.nd rfl (Or.inl rfl)) (pgs_cons (pg_name (i := 4) sc_is_deed.nd rfl (Or.inl rfl)) pgs_nil)))) (fun _ _ _ _ _ => pts_nil) (fun _ _ _ _ _ => (pk k_is_part hr (by decide) rfl pass0 (pa_cons (pv 3) (pa_cons (pv 4) pa_nil))))) pa_nil))))))))), ?_⟩
    refine ⟨_, rfl, _, _, _, _, _, rfl, .ty _, Knd.ty (.tup hS), kit_ty (r := true) (by decide +kernel), _, rfl, iteF ?_⟩
    cases xs with
    | nil => exact ⟨_, rfl, _, _, rfl, .inr ⟨_, hS, rfl⟩, rfl, _, rfl, iteT (q H (Same.refl H))⟩
    | cons x r =>
      refine ⟨_, rfl, _, _, rfl, .inr ⟨_, hS, rfl⟩, rfl, _, rfl, ?_⟩
      have nz : decide (V.int ((x :: r).length : Int) = V.int 0) = false := decide_eq_false fun z => by
        have z1 := V.int.inj z
        rw [List.length_cons] at z1
        omega
      rw [nz]
      refine iteF ⟨_, rfl, a, _, _, _, rfl, rfl, hS, at0, ?_⟩
      have hx := hok x (List.mem_cons_self ..)
      cases hx with
      | int i => exact ⟨_, rfl, _, _, _, _, _, rfl, .ty _, Knd.ty (.int i), kit_ty (r := false) (by decide +kernel), _, rfl, iteT (q H (Same.refl H))⟩
      | bl b => exact ⟨_, rfl, _, _, _, _, _, rfl, .ty _, Knd.ty (.bl b), kit_ty (r := false) (by decide +kernel), _, rfl, iteT (q H (Same.refl H))⟩
      | unit h => exact ⟨_, rfl, _, _, _, _, _, rfl, .ty _, Knd.ty (.tup h), kit_ty (r := false) (by decide +kernel), _, rfl, iteT (q H (Same.refl H))⟩
      | str z =>
        refine ⟨_, rfl, _, _, _, _, _, rfl, .ty _, Knd.ty (.str z), kit_ty (r := true) (by decide +kernel), _, rfl, iteF ⟨_, rfl, z, ?_⟩⟩
        by_cases hz : ∃ ks, (z, ks) ∈ PT
        · obtain ⟨ks, hks⟩ := hz
          obtain ⟨t, e1, e2⟩ := C.part _ hks
          have el : PT.lookup z = some ks := pt_at _ hks
          refine ⟨_, rfl, rfl, e1, _, rfl, iteF ?_⟩
          refine ⟨_, rfl, _, _, .ref t, rfl, rfl, ⟨es, n, _, D_PARTS.at_, D_PARTS.lit, e1, rfl⟩, ?_⟩
          refine ⟨_, rfl, _, _, rfl, .inr ⟨_, hS, rfl⟩, _, rfl, _, _, rfl, .inr ⟨_, e2 H, rfl⟩, _, _, rfl, rfl, rfl, _, rfl, ?_⟩
          have ed : deedB (.str z :: r) = (decide (r.length = ks.length) && ((ks.zip r).all fun p => partB p.1 p.2)) := by
            show (match PT.lookup z with
              | some ks => decide (r.length = ks.length) && ((ks.zip r).all fun p => partB p.1 p.2)
              | none => false) = _
            rw [el]
          have ec : decide (V.int ((V.str z :: r).length : Int) = V.int (((ks.map V.str).length : Nat) + 1 : Int)) = decide (r.length = ks.length) := by
            rw [List.length_cons, List.length_map]
            exact decide_eq_decide.mpr ⟨fun h => by have h2 := V.int.inj h; omega, fun h => congrArg V.int (by omega)⟩
          rw [ec]
          by_cases hl : r.length = ks.length
          · rw [decide_eq_true hl]
            refine iteF ?_
            refine ⟨_, rfl, _, rfl, _, rfl, a, _, rfl, hS, fun w => absurd w (not_whole_tail _ _), fun _ b hb => ?_⟩
            have s1 : Same H (upd H b (.tup (cutV (.str z :: r) (some 1) none))) := Same.add hb
            have h1 : (upd H b (.tup (cutV (.str z :: r) (some 1) none))) b = some (.tup r) := upd_same.trans (congrArg (fun l => some (HO.tup l)) (cut_tail _ _))
            generalize upd H b (.tup (cutV (.str z :: r) (some 1) none)) = H1 at s1 h1 ⊢
            refine ⟨t, b, ks.map V.str, r, rfl, .inr ⟨e2 H1, SqT.of h1, fun D hD => ?_⟩⟩
            have hlen : r.length = min (ks.map V.str).length r.length := by
              rw [List.length_map]
              omega
            refine lc_it (walk_zipT hlen) (fun i H2 => Same H1 H2 ∧ H2 D = some (.lst (((ks.zip r).take i).map fun p => V.bl (partB p.1 p.2)))) ⟨Same.add hD, upd_same⟩ (fun i H2 _ p => ⟨e2 H2, Same.tup p.1 (SqT.of h1)⟩) ?_ ?_
            · rintro i v H2 H3 hi ⟨p1, p2⟩ ⟨T, x, y, rfl, hT, rfl, hx, hy⟩
              refine ⟨T, _, rfl, SqT.of upd_same, rfl, _, _, rfl, _, _, rfl, rfl, rfl, ?_⟩
              have hx' : (ks.map V.str)[i]? = some x := hx
              rw [List.getElem?_map] at hx'
              cases ek : ks[i]? with
              | none => rw [ek] at hx'; cases hx'
              | some k =>
                rw [ek] at hx'
                have exk : x = V.str k := (Option.some.inj hx').symm
                subst exk
                have hy' : r[i]? = some y := hy
                have s3 : Same H1 (upd H2 T (.tup [V.str k, y])) := Same.trans p1 (Same.add hT)
                have oky : OkV K (upd H2 T (.tup [V.str k, y])) y := OkV.same (Same.trans s1 s3) (hok y (List.mem_cons_of_mem _ (List.mem_of_getElem? hy')))
                refine ⟨_, rfl, _, rfl, k, y, rfl, oky, pt_kinds _ hks k (List.mem_of_getElem? ek), ?_⟩
                have ez : (ks.zip r)[i]? = some (k, y) := List.getElem?_zip_eq_some.mpr ⟨ek, hy'⟩
                refine ⟨_, Same.add hT D _ p2, line_lt ?_, Same.mut s3 hD, ?_⟩
                · rw [List.length_map, List.length_take, List.length_zip, hl]
                  have := (List.getElem?_eq_some_iff.mp ek).1
                  have h6 : ks.length ≤ 3 := pt_len _ hks
                  omega
                · rw [upd_same, take_succ' ez, List.map_append]
                  rfl
            · rintro H2 ⟨p1, p2⟩
              have ez : (ks.zip r).length = r.length := by
                rw [List.length_zip]
                omega
              rw [← ez, List.take_length] at p2
              have p3 : H2 D = some (.lst (((ks.zip r).map fun p => partB p.1 p.2).map V.bl)) := by
                rw [p2, List.map_map]
                rfl
              refine ⟨D, _, rfl, SqL.of p3, ?_⟩
              have e5 : deedB (.str z :: r) = ((ks.zip r).map fun p => partB p.1 p.2).all id := by
                rw [ed, decide_eq_true hl, Bool.true_and, List.all_map]
                rfl
              rw [← e5]
              exact q H2 (Same.trans s1 p1)
          · rw [decide_eq_false hl]
            refine iteT ?_
            rw [ed, decide_eq_false hl, Bool.false_and] at q
            exact q H (Same.refl H)
        · have ho : z ∈ odd := by
            rcases hodd' z r rfl with h | h
            · exact absurd h hz
            · exact h
          refine ⟨_, rfl, rfl, C.odd z ho, _, rfl, iteT ?_⟩
          have ed : deedB (.str z :: r) = false := by
            show (match PT.lookup z with
              | some ks => decide (r.length = ks.length) && ((ks.zip r).all fun p => partB p.1 p.2)
              | none => false) = _
            rw [hodd z ho]
          rw [ed] at q
          exact q H (Same.refl H)
end
end Bm
set_option maxHeartbeats 800000
namespace Bm
open PySem PySem.Spec PyProof.Rows L2
/-! what a list of values that is a deed looks like -/
theorem numB_iff {v : V} {lo hi : Int} (h : numB v lo hi = true) : ∃ i, v = .int i ∧ lo ≤ i ∧ i ≤ hi := by
  cases v with
  | int i =>
    obtain ⟨h1, h2⟩ := Bool.and_eq_true_iff.mp (show (decide (lo ≤ i) && decide (i ≤ hi)) = true from h)
    exact ⟨i, rfl, of_decide_eq_true h1, of_decide_eq_true h2⟩
  | _ => cases h
theorem isBl_iff {v : V} (h : isBl v = true) : ∃ b, v = .bl b := by
  cases v with
  | bl b => exact ⟨b, rfl⟩
  | _ => cases h
theorem isTm_iff {v : V} (h : isTm v = true) : ∃ k, k < 7 ∧ v = .str (nm TM k) := by
  cases v with
  | str s =>
    obtain ⟨z, hz, e⟩ := List.any_eq_true.mp (show (TM.any fun z => z == s) = true from h)
    have e1 : z = s := eq_of_beq e
    subst e1
    have : ∀ z ∈ TM, ∃ k, k < 7 ∧ z = nm TM k := by decide +kernel
    obtain ⟨k, h1, h2⟩ := this z hz
    exact ⟨k, h1, by rw [← h2]⟩
  | _ => cases h
theorem part_reg {v : V} (h : partB "reg" v = true) : ∃ i, v = .int i ∧ r3 i := numB_iff h
theorem part_k {z : Str} {v : V} (r : Int × Int) (e : ∀ v, partB z v = numB v r.1 r.2) (h : partB z v = true) : ∃ i, v = .int i ∧ r.1 ≤ i ∧ i ≤ r.2 := by
  rw [e v] at h
  exact numB_iff h
theorem zip1 {k : Str} {r : List V} {ks : List Str} (hl : r.length = (k :: ks).length) (h : ((k :: ks).zip r).all (fun p => partB p.1 p.2) = true) : ∃ v r', r = v :: r' ∧ r'.length = ks.length ∧ partB k v = true ∧ (ks.zip r').all (fun p => partB p.1 p.2) = true := by
  cases r with
  | nil => cases hl
  | cons v r' =>
    obtain ⟨h1, h2⟩ := Bool.and_eq_true_iff.mp (show (partB k v && (ks.zip r').all fun p => partB p.1 p.2) = true from h)
    exact ⟨v, r', rfl, Nat.succ.inj hl, h1, h2⟩
theorem nil_of {r : List V} {ks : List Str} (h : ks = []) (hl : r.length = ks.length) : r = [] := by
  subst h
  cases r with
  | nil => rfl
  | cons _ _ => cases hl
theorem deed_of {xs : List V} (h : deedB xs = true) : ∃ d : De, d.ok ∧ xs = d.vals := by
  cases xs with
  | nil => cases h
  | cons x r =>
    cases x with
    | str z =>
      have h : (match PT.lookup z with
        | some ks => decide (r.length = ks.length) && ((ks.zip r).all fun p => partB p.1 p.2)
        | none => false) = true := h
      cases e : PT.lookup z with
      | none => rw [e] at h; cases h
      | some ks =>
        rw [e] at h
        obtain ⟨h1, h2⟩ := Bool.and_eq_true_iff.mp (show (decide (r.length = ks.length) && ((ks.zip r).all fun p => partB p.1 p.2)) = true from h)
        have h1 := of_decide_eq_true h1
        have hm : (z, ks) ∈ PT := by
          have : ∀ (l : List (Str × List Str)) (z : Str) (ks : List Str), l.lookup z = some ks → (z, ks) ∈ l := by
            intro l
            induction l with
            | nil => intro z ks h; cases h
            | cons p l ih =>
              obtain ⟨a, b⟩ := p
              intro z ks h
              rw [List.lookup_cons] at h
              by_cases c : z == a
              · rw [c] at h
                have e1 := eq_of_beq c
                have e2 : b = ks := Option.some.inj h
                rw [e1, ← e2]
                exact List.mem_cons_self ..
              · have c2 : (z == a) = false := by simpa using c
                rw [c2] at h
                exact List.mem_cons_of_mem _ (ih z ks h)
          exact this _ _ _ e
        clear e h
        have cases_ : ∀ p ∈ PT, (∃ k, k < 3 ∧ p = ((nm SG k, []) : Str × List Str)) ∨ (∃ k, k < 7 ∧ 3 ≤ k ∧ p = ((nm SG k, ["reg"]) : Str × List Str)) ∨ (∃ k, k < 8 ∧ p = ((nm SM k, ["reg", "reg", "reg"]) : Str × List Str)) ∨ p = (("plus", ["reg", "reg", "signed six"]) : Str × List Str) ∨
            p = (("set", ["reg", "nine"]) : Str × List Str) ∨ p = (("high", ["reg", "seven"]) : Str × List Str) ∨ p = (("load", ["reg", "reg", "six"]) : Str × List Str) ∨ p = (("store", ["reg", "reg", "six"]) : Str × List Str) ∨
            p = (("jump", ["when", "goal", "far"]) : Str × List Str) ∨ p = (("call", ["goal", "far"]) : Str × List Str) := by decide +kernel
        rcases cases_ _ hm with ⟨k, hk, e⟩ | ⟨k, hk2, hk, e⟩ | ⟨k, hk, e⟩ | e | e | e | e | e | e | e <;> (obtain ⟨rfl, rfl⟩ := Prod.mk.inj e)
        · obtain rfl := nil_of rfl h1
          exact ⟨.sgl k, hk, rfl⟩
        · obtain ⟨v, r, rfl, h1, p1, h2⟩ := zip1 h1 h2
          obtain rfl := nil_of rfl h1
          obtain ⟨a, rfl, ha⟩ := part_reg p1
          exact ⟨.reg k a, ⟨hk, hk2, ha⟩, rfl⟩
        · obtain ⟨v, r, rfl, h1, p1, h2⟩ := zip1 h1 h2
          obtain ⟨v2, r, rfl, h1, p2, h2⟩ := zip1 h1 h2
          obtain ⟨v3, r, rfl, h1, p3, h2⟩ := zip1 h1 h2
          obtain rfl := nil_of rfl h1
          obtain ⟨d, rfl, hd⟩ := part_reg p1
          obtain ⟨a, rfl, ha⟩ := part_reg p2
          obtain ⟨b, rfl, hb⟩ := part_reg p3
          exact ⟨.sum k d a b, ⟨hk, hd, ha, hb⟩, rfl⟩
        · obtain ⟨v, r, rfl, h1, p1, h2⟩ := zip1 h1 h2
          obtain ⟨v2, r, rfl, h1, p2, h2⟩ := zip1 h1 h2
          obtain ⟨v3, r, rfl, h1, p3, h2⟩ := zip1 h1 h2
          obtain rfl := nil_of rfl h1
          obtain ⟨d, rfl, hd⟩ := part_reg p1
          obtain ⟨a, rfl, ha⟩ := part_reg p2
          obtain ⟨n, rfl, hn⟩ := part_k (-32, 31) (fun v => rfl) p3
          exact ⟨.plus d a n, ⟨hd, ha, hn⟩, rfl⟩
        · obtain ⟨v, r, rfl, h1, p1, h2⟩ := zip1 h1 h2
          obtain ⟨v2, r, rfl, h1, p2, h2⟩ := zip1 h1 h2
          obtain rfl := nil_of rfl h1
          obtain ⟨d, rfl, hd⟩ := part_reg p1
          obtain ⟨n, rfl, hn⟩ := part_k (0, 511) (fun v => rfl) p2
          exact ⟨.set d n, ⟨hd, hn⟩, rfl⟩
        · obtain ⟨v, r, rfl, h1, p1, h2⟩ := zip1 h1 h2
          obtain ⟨v2, r, rfl, h1, p2, h2⟩ := zip1 h1 h2
          obtain rfl := nil_of rfl h1
          obtain ⟨d, rfl, hd⟩ := part_reg p1
          obtain ⟨n, rfl, hn⟩ := part_k (0, 127) (fun v => rfl) p2
          exact ⟨.high d n, ⟨hd, hn⟩, rfl⟩
        · obtain ⟨v, r, rfl, h1, p1, h2⟩ := zip1 h1 h2
          obtain ⟨v2, r, rfl, h1, p2, h2⟩ := zip1 h1 h2
          obtain ⟨v3, r, rfl, h1, p3, h2⟩ := zip1 h1 h2
          obtain rfl := nil_of rfl h1
          obtain ⟨d, rfl, hd⟩ := part_reg p1
          obtain ⟨a, rfl, ha⟩ := part_reg p2
          obtain ⟨n, rfl, hn⟩ := part_k (0, 63) (fun v => rfl) p3
          exact ⟨.load d a n, ⟨hd, ha, hn⟩, rfl⟩
        · obtain ⟨v, r, rfl, h1, p1, h2⟩ := zip1 h1 h2
          obtain ⟨v2, r, rfl, h1, p2, h2⟩ := zip1 h1 h2
          obtain ⟨v3, r, rfl, h1, p3, h2⟩ := zip1 h1 h2
          obtain rfl := nil_of rfl h1
          obtain ⟨d, rfl, hd⟩ := part_reg p1
          obtain ⟨a, rfl, ha⟩ := part_reg p2
          obtain ⟨n, rfl, hn⟩ := part_k (0, 63) (fun v => rfl) p3
          exact ⟨.store d a n, ⟨hd, ha, hn⟩, rfl⟩
        · obtain ⟨v, r, rfl, h1, p1, h2⟩ := zip1 h1 h2
          obtain ⟨v2, r, rfl, h1, p2, h2⟩ := zip1 h1 h2
          obtain ⟨v3, r, rfl, h1, p3, h2⟩ := zip1 h1 h2
          obtain rfl := nil_of rfl h1
          obtain ⟨k, hk, rfl⟩ := isTm_iff p1
          obtain ⟨g, rfl, hg⟩ := part_k (0, 65535) (fun v => rfl) p2
          obtain ⟨b, rfl⟩ := isBl_iff p3
          exact ⟨.jump k g b, ⟨hk, hg⟩, rfl⟩
        · obtain ⟨v, r, rfl, h1, p1, h2⟩ := zip1 h1 h2
          obtain ⟨v2, r, rfl, h1, p2, h2⟩ := zip1 h1 h2
          obtain rfl := nil_of rfl h1
          obtain ⟨g, rfl, hg⟩ := part_k (0, 65535) (fun v => rfl) p1
          obtain ⟨b, rfl⟩ := isBl_iff p2
          exact ⟨.call g b, hg, rfl⟩
    | _ => cases h
end Bm
set_option maxHeartbeats 800000
namespace Bm
open PySem PySem.Spec PyProof.Rows L2
theorem sg_look : ∀ k, k < 7 → PT.lookup (nm SG k) = some (if k < 3 then ([] : List Str) else (["reg"] : List Str)) := by decide +kernel
theorem sm_look : ∀ k, k < 8 → PT.lookup (nm SM k) = some (["reg", "reg", "reg"] : List Str) := by decide +kernel
theorem tm_any : ∀ k, k < 7 → isTm (.str (nm TM k)) = true := by decide +kernel
theorem deedB_of {z : Str} {r : List V} {ks : List Str} (e : PT.lookup z = some ks) (hl : r.length = ks.length) (h : ((ks.zip r).all fun p => partB p.1 p.2) = true) : deedB (.str z :: r) = true := by
  show (match PT.lookup z with
    | some ks => decide (r.length = ks.length) && ((ks.zip r).all fun p => partB p.1 p.2)
    | none => false) = true
  rw [e]
  show (decide (r.length = ks.length) && ((ks.zip r).all fun p => partB p.1 p.2)) = true
  rw [decide_eq_true hl, Bool.true_and]
  exact h
theorem numB_of {i lo hi : Int} (h : lo ≤ i ∧ i ≤ hi) : numB (.int i) lo hi = true := by
  show (decide (lo ≤ i) && decide (i ≤ hi)) = true
  rw [decide_eq_true h.1, decide_eq_true h.2]
  rfl
theorem reg_of {i : Int} (h : r3 i) : partB "reg" (.int i) = true := numB_of h
theorem and_of {a b : Bool} (h1 : a = true) (h2 : b = true) : (a && b) = true := by rw [h1, h2]; rfl
theorem deed_vals {d : De} (h : d.ok) : deedB d.vals = true := by
  cases d with
  | sgl k =>
    have hk : k < 3 := h
    have e := sg_look k (Nat.lt_of_lt_of_le hk (by decide))
    rw [if_pos hk] at e
    exact deedB_of e rfl rfl
  | reg k a =>
    have e := sg_look k h.2.1
    rw [if_neg (by have := h.1; omega)] at e
    exact deedB_of e rfl (and_of (reg_of h.2.2) rfl)
  | sum k d a b => exact deedB_of (sm_look k h.1) rfl (and_of (reg_of h.2.1) (and_of (reg_of h.2.2.1) (and_of (reg_of h.2.2.2) rfl)))
  | plus d a n => exact deedB_of (pt_at _ (show (("plus", ["reg", "reg", "signed six"]) : Str × List Str) ∈ PT by decide +kernel)) rfl (and_of (reg_of h.1) (and_of (reg_of h.2.1) (and_of (numB_of h.2.2) rfl)))
  | set d n => exact deedB_of (pt_at _ (show (("set", ["reg", "nine"]) : Str × List Str) ∈ PT by decide +kernel)) rfl (and_of (reg_of h.1) (and_of (numB_of h.2) rfl))
  | high d n => exact deedB_of (pt_at _ (show (("high", ["reg", "seven"]) : Str × List Str) ∈ PT by decide +kernel)) rfl (and_of (reg_of h.1) (and_of (numB_of h.2) rfl))
  | load d a n => exact deedB_of (pt_at _ (show (("load", ["reg", "reg", "six"]) : Str × List Str) ∈ PT by decide +kernel)) rfl (and_of (reg_of h.1) (and_of (reg_of h.2.1) (and_of (numB_of h.2.2) rfl)))
  | store d a n => exact deedB_of (pt_at _ (show (("store", ["reg", "reg", "six"]) : Str × List Str) ∈ PT by decide +kernel)) rfl (and_of (reg_of h.1) (and_of (reg_of h.2.1) (and_of (numB_of h.2.2) rfl)))
  | jump k g f => exact deedB_of (pt_at _ (show (("jump", ["when", "goal", "far"]) : Str × List Str) ∈ PT by decide +kernel)) rfl (and_of (tm_any k h.1) (and_of (numB_of h.2) rfl))
  | call g f => exact deedB_of (pt_at _ (show (("call", ["goal", "far"]) : Str × List Str) ∈ PT by decide +kernel)) rfl (and_of (numB_of h) rfl)
theorem mem_look : ∀ {l : List (Str × List Str)} {z : Str} {ks : List Str}, l.lookup z = some ks → (z, ks) ∈ l := by
  intro l
  induction l with
  | nil => intro z ks h; cases h
  | cons p l ih =>
    obtain ⟨a, b⟩ := p
    intro z ks h
    rw [List.lookup_cons] at h
    by_cases c : z == a
    · rw [c] at h
      have e1 := eq_of_beq c
      have e2 : b = ks := Option.some.inj h
      rw [e1, ← e2]
      exact List.mem_cons_self ..
    · have c2 : (z == a) = false := by simpa using c
      rw [c2] at h
      exact List.mem_cons_of_mem _ (ih h)
theorem deed_name {z : Str} {r : List V} (h : deedB (.str z :: r) = true) : ∃ ks, (z, ks) ∈ PT := by
  have h : (match PT.lookup z with
    | some ks => decide (r.length = ks.length) && ((ks.zip r).all fun p => partB p.1 p.2)
    | none => false) = true := h
  cases e : PT.lookup z with
  | none => rw [e] at h; cases h
  | some ks => exact ⟨ks, mem_look e⟩
theorem vals_ok {K : PySem.W.Frag} {H : Hp} (d : De) : ∀ x ∈ d.vals, OkV K H x := by
  intro x hx
  cases d <;> (simp only [De.vals, List.mem_cons, List.not_mem_nil, or_false] at hx) <;> (first | (rcases hx with rfl | rfl | rfl | rfl) | (rcases hx with rfl | rfl | rfl) | (rcases hx with rfl | rfl) | (rcases hx with rfl)) <;> first | exact .str _ | exact .int _ | exact .bl _
/-! classes of errors -/
structure Ex1 (K : PySem.W.Frag) (mg : Str → Option Value) (x : Str) : Prop where
  g : mg x = some (.ref (He.ga K x))
  c : PySem.W.excIn K (He.ga K x) He.veBase "ValueError.__new__" = true
  e : PySem.W.keepIn K (.ref (He.ga K x)) = true
  b : PySem.W.subIn K (.ref (He.ga K x)) (.type "BaseException") = some true
  t : PySem.W.typeIn K (.ref (He.ga K x)) = some (.type "type")
end Bm
set_option maxHeartbeats 800000
namespace Bm
open PySem PySem.Spec PyProof.Rows L2
section
variable {P : Program} {w : World} {K : PySem.W.Frag} {mg : Str → Option Value} {base : Heap} {f : Addr} {fd : FuncData} {dvs : List V}
/-! lists of names -/
def spNames (l : List Str) : Sp := fun vs H Q _ => vs = [] ∧ ∀ q H', H q = none → Same H H' → H' q = some (.lst (l.map V.str)) → Q (.ref q) H'
abbrev N__law_plain : List Str := []
theorem sc__law_plain : FnScope [] [] (defScope s__law_plain) := ⟨rfl, rfl, rfl, by decide +kernel, rfl, by decide +kernel, by decide +kernel⟩
abbrev N__law_pairs : List Str := []
theorem sc__law_pairs : FnScope [] [] (defScope s__law_pairs) := ⟨rfl, rfl, rfl, by decide +kernel, rfl, by decide +kernel, by decide +kernel⟩
abbrev N__law_times : List Str := []
theorem sc__law_times : FnScope [] [] (defScope s__law_times) := ⟨rfl, rfl, rfl, by decide +kernel, rfl, by decide +kernel, by decide +kernel⟩
theorem ok_plain (F : FunD K "_law_plain" "_law_plain" (defArgs s__law_plain) (defBody s__law_plain) (defScope s__law_plain) dvs [] f fd) : FnOk P w K mg base CX0 1 f fd [] (spNames SG) := by
  refine F.ok sc__law_plain (fun vs H Q E h => by rw [h.1]; rfl) (fun cdv A outer s H vs Q E hr h => ?_)
  obtain ⟨rfl, q⟩ := h
  refine ⟨_, PSs.nox (pss_one (ps_ret (pe_lst (pa_cons pe_str (pa_cons pe_str (pa_cons pe_str (pa_cons pe_str (pa_cons pe_str (pa_cons pe_str (pa_cons pe_str pa_nil)))))))))), ?_⟩
  exact ⟨line5 (by simp), laid fun q' H1 hq s1 h1 => q q' H1 hq s1 h1⟩
theorem ok_pairs (F : FunD K "_law_pairs" "_law_pairs" (defArgs s__law_pairs) (defBody s__law_pairs) (defScope s__law_pairs) dvs [] f fd) : FnOk P w K mg base CX0 1 f fd [] (spNames SM) := by
  refine F.ok sc__law_pairs (fun vs H Q E h => by rw [h.1]; rfl) (fun cdv A outer s H vs Q E hr h => ?_)
  obtain ⟨rfl, q⟩ := h
  refine ⟨_, PSs.nox (pss_one (ps_ret (pe_lst (pa_cons pe_str (pa_cons pe_str (pa_cons pe_str (pa_cons pe_str (pa_cons pe_str (pa_cons pe_str (pa_cons pe_str (pa_cons pe_str pa_nil))))))))))), ?_⟩
  exact ⟨line5 (by simp), laid fun q' H1 hq s1 h1 => q q' H1 hq s1 h1⟩
theorem ok_times (F : FunD K "_law_times" "_law_times" (defArgs s__law_times) (defBody s__law_times) (defScope s__law_times) dvs [] f fd) : FnOk P w K mg base CX0 1 f fd [] (spNames TM) := by
  refine F.ok sc__law_times (fun vs H Q E h => by rw [h.1]; rfl) (fun cdv A outer s H vs Q E hr h => ?_)
  obtain ⟨rfl, q⟩ := h
  refine ⟨_, PSs.nox (pss_one (ps_ret (pe_lst (pa_cons pe_str (pa_cons pe_str (pa_cons pe_str (pa_cons pe_str (pa_cons pe_str (pa_cons pe_str (pa_cons pe_str pa_nil)))))))))), ?_⟩
  exact ⟨line5 (by simp), laid fun q' H1 hq s1 h1 => q q' H1 hq s1 h1⟩
abbrev KnDr (P : Program) (w : World) (K : PySem.W.Frag) (mg : Str → Option Value) (base : Heap) : Prop := Kn P w K mg base CX0 1 "_law_drawn" ["_law_state_here", "_law_many"] [] (spDrawn K)
/-! _law_number -/
def spNumber (K : PySem.W.Frag) : Sp := fun vs H Q _ => ∃ (S : Sk) (lo hi : Int), vs = [.ref S.st, .int lo, .int hi] ∧ St K H S ∧ lo ≤ hi ∧ hi - lo + 1 < 1073741824 ∧ ∀ r H', lo ≤ r → r ≤ hi → Kp K S H H' → Q (.int r) H'
abbrev N__law_number : List Str := ["_law_state_here", "_law_low", "_law_high", "_law_many", "_law_way"]
theorem sc__law_number : FnScope ["_law_state_here", "_law_low", "_law_high", "_law_many", "_law_way"] ["_law_state_here", "_law_low", "_law_high"] (defScope s__law_number) := ⟨rfl, rfl, rfl, by decide +kernel, rfl, by decide +kernel, by decide +kernel⟩
theorem two_ {x y : V} {i : Int} (h0 : 0 ≤ i) (h1 : i < 2) : atI [x, y] i = some (if i = 0 then x else y) := by
  have e : i = 0 ∨ i = 1 := by omega
  rcases e with rfl | rfl
  · exact atI_nat (j := 0) rfl
  · exact atI_nat (j := 1) rfl
theorem ok_number (F : FunD K "_law_number" "_law_number" (defArgs s__law_number) (defBody s__law_number) (defScope s__law_number) dvs [] f fd) (k__law_drawn : KnDr P w K mg base) (g_min : mg "min" = none) : FnOk P w K mg base CX0 2 f fd ["_law_state_here", "_law_low", "_law_high"] (spNumber K) := by
  refine F.ok sc__law_number (fun vs H Q E h => ?_) (fun cdv A outer s H vs Q E hr h => ?_)
  · obtain ⟨S, lo, hi, rfl, _⟩ := h
    rfl
  · obtain ⟨S, lo, hi, rfl, hst, h1, h2, q⟩ := h
    refine ⟨_, PSs.nox (pss_cons (ps_set (i := 3) sc__law_number.nd rfl (Or.inl rfl) (pe_op op_add (pe_op op_sub (pv 2) (pv 1)) pe_int))
      (pss_cons (ps_set (i := 4) sc__law_number.nd rfl (Or.inl rfl) (pk k__law_drawn hr (by decide) rfl pass0 (pa_cons (pv 0) (pa_cons pe_int pa_nil))))
      (pss_cons (ps_if (pt_cmpR op_lt (pv 4) pe_int (nomark _)) (pss_one (ps_ret (pe_ix ix_list (pe_lst (pa_cons (pv 1) (pa_cons (pv 2) pa_nil))) (pv 4) (fun _ _ => rfl)))) pss_nil)
      (pss_one (ps_ret (pe_op op_add (pv 1) (pk k__law_drawn hr (by decide) rfl pass0 (pa_cons (pv 0) (pa_cons (pe_ix ix_list (pe_lst (pa_cons (pv 3) (pa_cons (pe_callB (call_min2 rfl) rfl g_min (by decide +kernel) (pa_cons pe_int (pa_cons (pv 3) pa_nil))) pa_nil))) (pe_op op_sub (pv 4) pe_int) (fun _ _ => rfl)) pa_nil))))))))), ?_⟩
    refine ⟨_, rfl, _, rfl, _, _, rfl, rfl, _, _, rfl, rfl, _, rfl, S, 4, rfl, hst, by decide, by decide, fun way H1 w0 w1 k1 => ⟨_, rfl, _, _, rfl, rfl, _, rfl, ?_⟩⟩
    by_cases hw : way < 2
    · rw [decide_eq_true hw]
      refine iteT ⟨_, rfl, _, rfl, line5 (by simp), fun p hp => ?_⟩
      refine ⟨_, rfl, _, _, _, _, rfl, rfl, SqL.of upd_same, two_ w0 hw, ?_⟩
      by_cases e : way = 0
      · rw [if_pos e]
        exact q _ _ (Int.le_refl _) h1 (k1.add hp)
      · rw [if_neg e]
        exact q _ _ h1 (Int.le_refl _) (k1.add hp)
    · rw [decide_eq_false hw]
      refine iteF ⟨_, rfl, _, rfl, _, rfl, _, rfl, _, _, rfl, line5 (by simp), fun p hp => ?_⟩
      have k2 := k1.add (o := .lst [.int (hi - lo + 1), .int (if hi - lo + 1 < 4 then hi - lo + 1 else 4)]) hp
      refine ⟨_, rfl, _, _, rfl, rfl, _, _, _, .int (if way - 2 = 0 then hi - lo + 1 else if hi - lo + 1 < 4 then hi - lo + 1 else 4), rfl, rfl, SqL.of upd_same, ?_, ?_⟩
      · have e := two_ (x := .int (hi - lo + 1)) (y := .int (if hi - lo + 1 < 4 then hi - lo + 1 else 4)) (i := way - 2) (by omega) (by omega)
        rw [e]
        split <;> rfl
      · have b : 0 < (if way - 2 = 0 then hi - lo + 1 else if hi - lo + 1 < 4 then hi - lo + 1 else 4) ∧ (if way - 2 = 0 then hi - lo + 1 else if hi - lo + 1 < 4 then hi - lo + 1 else 4) ≤ hi - lo + 1 := by
          split
          · omega
          · split <;> omega
        refine ⟨S, _, rfl, k2.st, b.1, by omega, fun r H3 r0 r1 k3 => ⟨_, _, rfl, rfl, ?_⟩⟩
        exact q _ _ (by omega) (by omega) (k2.trans k3)
end
end Bm
set_option maxHeartbeats 1600000
namespace Bm
open PySem PySem.Spec PyProof.Rows L2
section
variable {P : Program} {w : World} {K : PySem.W.Frag} {mg : Str → Option Value} {base : Heap} {f : Addr} {fd : FuncData} {dvs : List V}
abbrev KnNum (P : Program) (w : World) (K : PySem.W.Frag) (mg : Str → Option Value) (base : Heap) : Prop := Kn P w K mg base CX0 2 "_law_number" ["_law_state_here", "_law_low", "_law_high"] [] (spNumber K)
abbrev KnNm (P : Program) (w : World) (K : PySem.W.Frag) (mg : Str → Option Value) (base : Heap) (x : Str) (l : List Str) : Prop := Kn P w K mg base CX0 1 x [] [] (spNames l)
/-! _law_deed -/
def De.below (m : Int) : De → Prop
  | .jump _ g _ => g ≤ m
  | .call g _ => g ≤ m
  | _ => True
def spLDeed (K : PySem.W.Frag) : Sp := fun vs H Q _ => ∃ (S : Sk) (p m : Int), vs = [.ref S.st, .int p, .int m] ∧ St K H S ∧ 0 ≤ m ∧ m ≤ 65535 ∧ ∀ (d : De) q H', d.ok → d.reached p → d.below m → Kp K S H H' → H' q = some (.tup d.vals) → Q (.ref q) H'
abbrev N__law_deed : List Str := ["_law_state_here", "_law_place", "_law_most", "_law_way", "_law_d", "_law_a", "_law_b", "_law_word", "_law_low", "_law_high", "_law_far", "_law_there"]
theorem sc__law_deed : FnScope ["_law_state_here", "_law_place", "_law_most", "_law_way", "_law_d", "_law_a", "_law_b", "_law_word", "_law_low", "_law_high", "_law_far", "_law_there"] ["_law_state_here", "_law_place", "_law_most"] (defScope s__law_deed) := ⟨rfl, rfl, rfl, by decide +kernel, rfl, by decide +kernel, by decide +kernel⟩
theorem nat_of {r n : Int} (h0 : 0 ≤ r) (h1 : r < n) : ∃ k : Nat, r = (k : Int) ∧ k < n.toNat := ⟨r.toNat, by omega, by omega⟩
theorem at_nm {l : List Str} {k : Nat} (h : k < l.length) : atI (l.map V.str) (k : Int) = some (.str (nm l k)) := by
  refine atI_nat ?_
  rw [List.getElem?_map, List.getElem?_eq_getElem h]
  show some (V.str l[k]) = some (V.str (l.getD k ""))
  rw [List.getD_eq_getElem?_getD, List.getElem?_eq_getElem h]
  rfl
theorem sg_first : ∀ k, k < 7 → inV (.str (nm SG k)) [.str "halt", .str "rest", .str "back"] = decide (k < 3) := by decide +kernel
theorem ok_ldeed (F : FunD K "_law_deed" "_law_deed" (defArgs s__law_deed) (defBody s__law_deed) (defScope s__law_deed) dvs [] f fd) (k__law_drawn : KnDr P w K mg base) (k__law_number : KnNum P w K mg base)
    (k__law_plain : KnNm P w K mg base "_law_plain" SG) (k__law_pairs : KnNm P w K mg base "_law_pairs" SM) (k__law_times : KnNm P w K mg base "_law_times" TM) (g_min : mg "min" = none) (g_max : mg "max" = none) : FnOk P w K mg base CX0 3 f fd ["_law_state_here", "_law_place", "_law_most"] (spLDeed K) := by
  refine F.ok sc__law_deed (fun vs H Q E h => ?_) (fun cdv A outer s H vs Q E hr h => ?_)
  · obtain ⟨S, p, m, rfl, _⟩ := h
    rfl
  · obtain ⟨S, p, m, rfl, hst, hm0, hm1, q⟩ := h
    refine ⟨_, PSs.nox (pss_cons (ps_set (i := 3) sc__law_deed.nd rfl (Or.inl rfl) (pk k__law_drawn hr (by decide) rfl pass0 (pa_cons (pv 0) (pa_cons pe_int pa_nil))))
      (pss_cons (ps_par3 (i := 4) (j := 5) (l := 6) rfl sc__law_deed.nd rfl rfl rfl (by decide) (by decide) (by decide) rfl rfl rfl (pa_cons (pk k__law_drawn hr (by decide) rfl pass0 (pa_cons (pv 0) (pa_cons pe_int pa_nil))) (pa_cons (pk k__law_drawn hr (by decide) rfl pass0 (pa_cons (pv 0) (pa_cons pe_int pa_nil))) (pa_cons (pk k__law_drawn hr (by decide) rfl pass0 (pa_cons (pv 0) (pa_cons pe_int pa_nil))) pa_nil))) rfl)
      (pss_cons (ps_if (pt_cmpR op_lt (pv 3) pe_int (nomark _)) (pss_cons (ps_set (i := 7) sc__law_deed.nd rfl (Or.inl rfl) (pe_ix ix_list (pk0 k__law_plain hr (by decide) rfl pass0) (pk k__law_drawn hr (by decide) rfl pass0 (pa_cons (pv 0) (pa_cons pe_int pa_nil))) (fun _ _ => rfl)))
      (pss_one (ps_ret (pe_ifExp (pt_cmpR op_in_seq (pv 7) (pe_tup (pa_cons pe_str (pa_cons pe_str (pa_cons pe_str pa_nil)))) rfl) (pe_tup (pa_cons (pv 7) pa_nil)) (pe_tup (pa_cons (pv 7) (pa_cons (pv 5) pa_nil))))))) pss_nil)
      (pss_cons (ps_if (pt_cmpR op_lt (pv 3) pe_int (nomark _)) (pss_one (ps_ret (pe_tup (pa_cons (pe_ix ix_list (pk0 k__law_pairs hr (by decide) rfl pass0) (pk k__law_drawn hr (by decide) rfl pass0 (pa_cons (pv 0) (pa_cons pe_int pa_nil))) (fun _ _ => rfl)) (pa_cons (pv 4) (pa_cons (pv 5) (pa_cons (pv 6) pa_nil))))))) pss_nil)
      (pss_cons (ps_if (pt_cmpR op_lt (pv 3) pe_int (nomark _)) (pss_cons (ps_asg (pe_ix ix_list (pe_lst (pa_cons (pe_tup (pa_cons (pe_op op_sub pe_int pe_int) (pa_cons pe_int pa_nil))) (pa_cons (pe_tup (pa_cons pe_int (pa_cons pe_int pa_nil))) (pa_cons (pe_tup (pa_cons pe_int (pa_cons pe_int pa_nil))) (pa_cons (pe_tup (pa_cons pe_int (pa_cons pe_int pa_nil))) pa_nil))))) (pe_op op_sub (pv 3) pe_int) (fun _ _ => rfl)) (pg_tup rfl (pgs_cons (pg_name (i := 8) sc__law_deed.nd rfl (Or.inl rfl)) (pgs_cons (pg_name (i := 9) sc__law_deed.nd rfl (Or.inl rfl)) pgs_nil))))
      (pss_cons (ps_set (i := 7) sc__law_deed.nd rfl (Or.inl rfl) (pe_ix ix_list (pe_lst (pa_cons pe_str (pa_cons pe_str (pa_cons pe_str (pa_cons (pe_ix ix_list (pe_lst (pa_cons pe_str (pa_cons pe_str pa_nil))) (pk k__law_drawn hr (by decide) rfl pass0 (pa_cons (pv 0) (pa_cons pe_int pa_nil))) (fun _ _ => rfl)) pa_nil))))) (pe_op op_sub (pv 3) pe_int) (fun _ _ => rfl)))
      (pss_one (ps_ret (pe_op op_catA (pe_op op_catA (pe_tup (pa_cons (pv 7) (pa_cons (pv 4) pa_nil))) (pe_ifExp (pt_cmpR op_in_seq (pv 3) (pe_tup (pa_cons pe_int (pa_cons pe_int pa_nil))) rfl) (pe_tup (pa_cons (pv 5) pa_nil)) (pe_tup pa_nil))) (pe_tup (pa_cons (pk k__law_number hr (by decide) rfl pass0 (pa_cons (pv 0) (pa_cons (pv 8) (pa_cons (pv 9) pa_nil)))) pa_nil))))))) pss_nil)
      (pss_cons (ps_set (i := 10) sc__law_deed.nd rfl (Or.inl rfl) (pe_cmpR op_eq (pk k__law_drawn hr (by decide) rfl pass0 (pa_cons (pv 0) (pa_cons pe_int pa_nil))) pe_int (nomark _)))
      (pss_cons (ps_set (i := 11) sc__law_deed.nd rfl (Or.inl rfl) (pk k__law_drawn hr (by decide) rfl pass0 (pa_cons (pv 0) (pa_cons (pe_op op_add (pv 2) pe_int) pa_nil))))
      (Evl.pss_cut (ps_if (pt_not (pt_val (pv 10))) (pss_cons (ps_set (i := 11) sc__law_deed.nd rfl (Or.inl rfl) (pe_callB (call_max2 rfl) rfl g_max (by decide +kernel) (pa_cons pe_int (pa_cons (pe_callB (call_min2 rfl) rfl g_min (by decide +kernel) (pa_cons (pv 2) (pa_cons (pe_callB (call_max2 rfl) rfl g_max (by decide +kernel) (pa_cons (pe_op op_sub (pv 1) pe_int) (pa_cons (pe_callB (call_min2 rfl) rfl g_min (by decide +kernel) (pa_cons (pe_op op_add (pv 1) pe_int) (pa_cons (pv 11) pa_nil))) pa_nil))) pa_nil))) pa_nil))))
      (pss_one (ps_set (i := 10) sc__law_deed.nd rfl (Or.inl rfl) (pe_not (pe_chain op_le op_le (pe_op op_sub (pv 1) pe_int) (pv 11) (pe_op op_add (pv 1) pe_int)))))) pss_nil)
      (pss_one (ps_ret (pe_ifExp (pt_cmpR op_eq (pv 3) pe_int (nomark _)) (pe_tup (pa_cons pe_str (pa_cons (pe_ix ix_list (pk0 k__law_times hr (by decide) rfl pass0) (pk k__law_drawn hr (by decide) rfl pass0 (pa_cons (pv 0) (pa_cons pe_int pa_nil))) (fun _ _ => rfl)) (pa_cons (pv 11) (pa_cons (pv 10) pa_nil))))) (pe_tup (pa_cons pe_str (pa_cons (pv 11) (pa_cons (pv 10) pa_nil))))))))))))))), ?_⟩
    refine ⟨_, rfl, S, 10, rfl, hst, by decide, by decide, fun way H1 w0 w1 k1 => ?_⟩
    refine ⟨_, rfl, S, 8, rfl, k1.st, by decide, by decide, fun d H2 d0 d1 k2 => ⟨_, rfl, S, 8, rfl, k2.st, by decide, by decide, fun a H3 a0 a1 k3 => ⟨_, rfl, S, 8, rfl, k3.st, by decide, by decide, fun b H4 b0 b1 k4 => ⟨_, _, _, rfl, ?_⟩⟩⟩⟩
    have kk := ((k1.trans k2).trans k3).trans k4
    clear k1 k2 k3 k4
    refine ⟨_, rfl, _, _, rfl, rfl, _, rfl, ?_⟩
    by_cases c1 : way < 2
    · rw [decide_eq_true c1]
      refine iteT ⟨rfl, fun l H5 hl s5 h5 => ⟨_, rfl, S, 7, rfl, kk.st.same s5, by decide, by decide, fun r H6 r0 r1 k6 => ?_⟩⟩
      obtain ⟨k, rfl, hk⟩ := nat_of r0 r1
      have hk : k < 7 := hk
      obtain ⟨ls, hls⟩ := kk.st.lst
      have nl : l ≠ S.st := Ne.symm (ne_of_none hls hl)
      have k5 := (kk.same s5).trans k6
      refine ⟨_, _, _, _, rfl, rfl, k6.lst nl (SqL.of h5), at_nm hk, ?_⟩
      refine ⟨_, rfl, line5 (by simp), fun p1 hp1 => ?_⟩
      refine ⟨_, _, rfl, .inr (SqT.of upd_same), rfl, rfl, _, rfl, ?_⟩
      have e3 := sg_first k hk
      show if inV (.str (nm SG k)) [.str "halt", .str "rest", .str "back"] = true then _ else _
      rw [e3]
      have k7 := k5.add (o := .tup [.str "halt", .str "rest", .str "back"]) hp1
      by_cases c4 : k < 3
      · rw [decide_eq_true c4]
        exact iteT ⟨_, rfl, line5 (by simp), laid fun q' H8 _ s8 h8 => q (.sgl k) q' H8 c4 trivial trivial (k7.same s8) h8⟩
      · rw [decide_eq_false c4]
        exact iteF ⟨_, rfl, _, rfl, line5 (by simp), laid fun q' H8 _ s8 h8 => q (.reg k a) q' H8 ⟨by omega, hk, by omega, by omega⟩ trivial trivial (k7.same s8) h8⟩
    · rw [decide_eq_false c1]
      refine iteF ⟨_, rfl, _, _, rfl, rfl, _, rfl, ?_⟩
      by_cases c2 : way < 4
      · rw [decide_eq_true c2]
        refine iteT ⟨rfl, fun l H5 hl s5 h5 => ⟨_, rfl, S, 8, rfl, kk.st.same s5, by decide, by decide, fun r H6 r0 r1 k6 => ?_⟩⟩
        obtain ⟨k, rfl, hk⟩ := nat_of r0 r1
        have hk : k < 8 := hk
        obtain ⟨ls, hls⟩ := kk.st.lst
        have nl : l ≠ S.st := Ne.symm (ne_of_none hls hl)
        have k5 := (kk.same s5).trans k6
        refine ⟨_, _, _, _, rfl, rfl, k6.lst nl (SqL.of h5), at_nm hk, ?_⟩
        exact ⟨_, rfl, _, rfl, _, rfl, line5 (by simp), laid fun q' H8 _ s8 h8 => q (.sum k d a b) q' H8 ⟨hk, ⟨by omega, by omega⟩, ⟨by omega, by omega⟩, by omega, by omega⟩ trivial trivial (k5.same s8) h8⟩
      · rw [decide_eq_false c2]
        refine iteF ⟨_, rfl, _, _, rfl, rfl, _, rfl, ?_⟩
        by_cases c3 : way < 8
        · rw [decide_eq_true c3]
          refine iteT ?_
          refine ⟨_, _, rfl, rfl, line5 (by simp), fun p1 hp1 => ?_⟩
          have s5 : Same H4 (upd H4 p1 (.tup [.int (0 - 32), .int 31])) := Same.add hp1
          have e1 : (upd H4 p1 (.tup [.int (0 - 32), .int 31])) p1 = some (.tup [.int (0 - 32), .int 31]) := upd_same
          generalize upd H4 p1 (.tup [.int (0 - 32), .int 31]) = H5 at s5 e1 ⊢
          refine ⟨line5 (by simp), fun p2 hp2 => ?_⟩
          have s6 : Same H5 (upd H5 p2 (.tup [.int 0, .int 511])) := Same.add hp2
          have e2 : (upd H5 p2 (.tup [.int 0, .int 511])) p2 = some (.tup [.int 0, .int 511]) := upd_same
          generalize upd H5 p2 (.tup [.int 0, .int 511]) = H6 at s6 e2 ⊢
          refine ⟨line5 (by simp), fun p3 hp3 => ?_⟩
          have s7 : Same H6 (upd H6 p3 (.tup [.int 0, .int 127])) := Same.add hp3
          have e3 : (upd H6 p3 (.tup [.int 0, .int 127])) p3 = some (.tup [.int 0, .int 127]) := upd_same
          generalize upd H6 p3 (.tup [.int 0, .int 127]) = H7 at s7 e3 ⊢
          refine ⟨line5 (by simp), fun p4 hp4 => ?_⟩
          have s8 : Same H7 (upd H7 p4 (.tup [.int 0, .int 63])) := Same.add hp4
          have e4 : (upd H7 p4 (.tup [.int 0, .int 63])) p4 = some (.tup [.int 0, .int 63]) := upd_same
          generalize upd H7 p4 (.tup [.int 0, .int 63]) = H8 at s8 e4 ⊢
          refine ⟨line5 (by simp), fun l hl => ?_⟩
          have s9 : Same H8 (upd H8 l (.lst [.ref p1, .ref p2, .ref p3, .ref p4])) := Same.add hl
          have e9 : (upd H8 l (.lst [.ref p1, .ref p2, .ref p3, .ref p4])) l = some (.lst [.ref p1, .ref p2, .ref p3, .ref p4]) := upd_same
          generalize upd H8 l (.lst [.ref p1, .ref p2, .ref p3, .ref p4]) = H9 at s9 e9 ⊢
          have kA := ((((kk.same s5).same s6).same s7).same s8).same s9
          have f1 := s9 _ _ (s8 _ _ (s7 _ _ (s6 _ _ e1)))
          have f2 := s9 _ _ (s8 _ _ (s7 _ _ e2))
          have f3 := s9 _ _ (s8 _ _ e3)
          have f4 := s9 _ _ e4
          have pick : ∃ tp lo hi, atI [V.ref p1, .ref p2, .ref p3, .ref p4] (way - 4) = some (.ref tp) ∧ H9 tp = some (.tup [.int lo, .int hi]) ∧ ((way = 4 ∧ lo = 0 - 32 ∧ hi = 31) ∨ (way = 5 ∧ lo = 0 ∧ hi = 511) ∨ (way = 6 ∧ lo = 0 ∧ hi = 127) ∨ (way = 7 ∧ lo = 0 ∧ hi = 63)) := by
            have e : way = 4 ∨ way = 5 ∨ way = 6 ∨ way = 7 := by omega
            rcases e with rfl | rfl | rfl | rfl
            · exact ⟨p1, 0 - 32, 31, atI_nat (j := 0) rfl, f1, .inl ⟨rfl, rfl, rfl⟩⟩
            · exact ⟨p2, 0, 511, atI_nat (j := 1) rfl, f2, .inr (.inl ⟨rfl, rfl, rfl⟩)⟩
            · exact ⟨p3, 0, 127, atI_nat (j := 2) rfl, f3, .inr (.inr (.inl ⟨rfl, rfl, rfl⟩))⟩
            · exact ⟨p4, 0, 63, atI_nat (j := 3) rfl, f4, .inr (.inr (.inr ⟨rfl, rfl, rfl⟩))⟩
          obtain ⟨tp, lo, hi, hat, htp, hlh⟩ := pick
          refine ⟨_, rfl, _, _, rfl, rfl, _, _, _, _, rfl, rfl, SqL.of e9, hat, tp, _, rfl, SqT.of htp, rfl, _, _, rfl, _, _, rfl, rfl, ?_⟩
          clear f1 f2 f3 f4 hat htp e9 e4 e3 e2 e1 s5 s6 s7 s8 s9 hp1 hp2 hp3 hp4 hl
          -- the word
          clear p1 p2 p3 p4 l
          refine ⟨line5 (by simp), fun p1 hp1 => ?_⟩
          have s5 : Same H9 (upd H9 p1 (.lst [.str "load", .str "store"])) := Same.add hp1
          have e1 : (upd H9 p1 (.lst [.str "load", .str "store"])) p1 = some (.lst [.str "load", .str "store"]) := upd_same
          generalize upd H9 p1 (.lst [.str "load", .str "store"]) = Ha at s5 e1 ⊢
          refine ⟨_, rfl, S, 2, rfl, (kA.same s5).st, by decide, by decide, fun r Hb r0 r1 k6 => ?_⟩
          obtain ⟨ls, hls⟩ := kA.st.lst
          have n1 : p1 ≠ S.st := Ne.symm (ne_of_none hls hp1)
          refine ⟨_, _, _, _, rfl, rfl, k6.lst n1 (SqL.of e1), two_ r0 r1, line5 (by simp), fun l hl => ?_⟩
          have s7 : Same Hb (upd Hb l (.lst [.str "plus", .str "set", .str "high", if r = 0 then .str "load" else .str "store"])) := Same.add hl
          have e7 : (upd Hb l (.lst [.str "plus", .str "set", .str "high", if r = 0 then .str "load" else .str "store"])) l = some (.lst [.str "plus", .str "set", .str "high", if r = 0 then .str "load" else .str "store"]) := upd_same
          generalize upd Hb l (.lst [.str "plus", .str "set", .str "high", if r = 0 then .str "load" else .str "store"]) = Hc at s7 e7 ⊢
          have kB := ((kA.same s5).trans k6).same s7
          have pick2 : ∃ wd : Str, atI [V.str "plus", .str "set", .str "high", (if r = 0 then V.str "load" else V.str "store")] (way - 4) = some (.str wd) ∧ ((way = 4 ∧ wd = "plus") ∨ (way = 5 ∧ wd = "set") ∨ (way = 6 ∧ wd = "high") ∨ (way = 7 ∧ wd = "load") ∨ (way = 7 ∧ wd = "store")) := by
            have e : way = 4 ∨ way = 5 ∨ way = 6 ∨ way = 7 := by omega
            rcases e with rfl | rfl | rfl | rfl
            · exact ⟨_, atI_nat (j := 0) rfl, .inl ⟨rfl, rfl⟩⟩
            · exact ⟨_, atI_nat (j := 1) rfl, .inr (.inl ⟨rfl, rfl⟩)⟩
            · exact ⟨_, atI_nat (j := 2) rfl, .inr (.inr (.inl ⟨rfl, rfl⟩))⟩
            · by_cases e0 : r = 0
              · rw [if_pos e0]
                exact ⟨_, atI_nat (j := 3) rfl, .inr (.inr (.inr (.inl ⟨rfl, rfl⟩)))⟩
              · rw [if_neg e0]
                exact ⟨_, atI_nat (j := 3) rfl, .inr (.inr (.inr (.inr ⟨rfl, rfl⟩)))⟩
          obtain ⟨wd, hat, hwd⟩ := pick2
          refine ⟨_, rfl, _, _, rfl, rfl, _, _, _, _, rfl, rfl, SqL.of e7, hat, ?_⟩
          clear hat e7 s7 s5 e1
          have glue : ∀ (Hd : Hp) (t1 : Addr) (xs : List V) (H7 : Hp), Kp K S Hd H7 → SqT K Hd t1 xs → SqT K H7 t1 xs := fun _ _ _ _ k h => k.tup h
          refine ⟨_, rfl, _, rfl, line5 (by simp), fun p1 hp1 => ?_⟩
          have sd : Same Hc (upd Hc p1 (.tup [.str wd, .int d])) := Same.add hp1
          have ed : (upd Hc p1 (.tup [.str wd, .int d])) p1 = some (.tup [.str wd, .int d]) := upd_same
          generalize upd Hc p1 (.tup [.str wd, .int d]) = Hd at sd ed ⊢
          refine ⟨_, rfl, line5 (by simp), fun p2 hp2 => ?_⟩
          have se : Same Hd (upd Hd p2 (.tup [.int 4, .int 7])) := Same.add hp2
          have ee : (upd Hd p2 (.tup [.int 4, .int 7])) p2 = some (.tup [.int 4, .int 7]) := upd_same
          generalize upd Hd p2 (.tup [.int 4, .int 7]) = He at se ee ⊢
          refine ⟨_, _, rfl, .inr (SqT.of ee), rfl, rfl, _, rfl, ?_⟩
          have kE := (kB.same sd).same se
          have ed2 := se _ _ ed
          show if inV (.int way) [.int 4, .int 7] = true then _ else _
          have hin : inV (.int way) [.int 4, .int 7] = decide (way = 4 ∨ way = 7) := by
            have e : way = 4 ∨ way = 5 ∨ way = 6 ∨ way = 7 := by omega
            rcases e with rfl | rfl | rfl | rfl <;> decide +kernel
          rw [hin]
          clear hin ee se hp2 glue
          by_cases c5 : way = 4 ∨ way = 7
          · rw [decide_eq_true c5]
            refine iteT ⟨_, rfl, line5 (by simp), fun p3 hp3 => ?_⟩
            have sf : Same He (upd He p3 (.tup [.int a])) := Same.add hp3
            have ef : (upd He p3 (.tup [.int a])) p3 = some (.tup [.int a]) := upd_same
            generalize upd He p3 (.tup [.int a]) = Hf at sf ef ⊢
            refine ⟨_, _, _, _, rfl, rfl, SqT.of (sf _ _ ed2), SqT.of ef, line5 (by simp), (fun z => by cases z), (fun _ z => by cases z), fun _ _ p4 hp4 => ?_⟩
            have sg : Same Hf (upd Hf p4 (.tup ([.str wd, .int d] ++ [.int a]))) := Same.add hp4
            have eg : (upd Hf p4 (.tup ([.str wd, .int d] ++ [.int a]))) p4 = some (.tup ([.str wd, .int d] ++ [.int a])) := upd_same
            generalize upd Hf p4 (.tup ([.str wd, .int d] ++ [.int a])) = Hg at sg eg ⊢
            have kG := (kE.same sf).same sg
            refine ⟨_, rfl, _, rfl, _, rfl, S, lo, hi, rfl, kG.st, by omega, by omega, fun n Hh n0 n1 kh => ⟨line5 (by simp), fun p5 hp5 => ?_⟩⟩
            have si : Same Hh (upd Hh p5 (.tup [.int n])) := Same.add hp5
            have ei : (upd Hh p5 (.tup [.int n])) p5 = some (.tup [.int n]) := upd_same
            generalize upd Hh p5 (.tup [.int n]) = Hi at si ei ⊢
            refine ⟨_, _, _, _, rfl, rfl, Same.tup si (kh.tup (SqT.of eg)), SqT.of ei, line5 (by simp), (fun z => by cases z), (fun _ z => by cases z), fun _ _ p6 hp6 => ?_⟩
            have kI := ((kG.trans kh).same si).add (o := .tup (([.str wd, .int d] ++ [.int a]) ++ [.int n])) hp6
            rcases hwd with ⟨w1, rfl⟩ | ⟨w1, rfl⟩ | ⟨w1, rfl⟩ | ⟨w1, rfl⟩ | ⟨w1, rfl⟩
            · exact q (.plus d a n) _ _ ⟨⟨by omega, by omega⟩, ⟨by omega, by omega⟩, by omega, by omega⟩ trivial trivial kI upd_same
            · omega
            · omega
            · exact q (.load d a n) _ _ ⟨⟨by omega, by omega⟩, ⟨by omega, by omega⟩, by omega, by omega⟩ trivial trivial kI upd_same
            · exact q (.store d a n) _ _ ⟨⟨by omega, by omega⟩, ⟨by omega, by omega⟩, by omega, by omega⟩ trivial trivial kI upd_same
          · rw [decide_eq_false c5]
            refine iteF ⟨line5 (by simp), fun p3 hp3 => ?_⟩
            have sf : Same He (upd He p3 (.tup [])) := Same.add hp3
            have ef : (upd He p3 (.tup [])) p3 = some (.tup []) := upd_same
            generalize upd He p3 (.tup []) = Hf at sf ef ⊢
            refine ⟨_, _, _, _, rfl, rfl, SqT.of (sf _ _ ed2), SqT.of ef, line5 (by simp), (fun z => by cases z), (fun _ _ => ?_), (fun _ z => absurd rfl z)⟩
            have kG := kE.same sf
            refine ⟨_, rfl, _, rfl, _, rfl, S, lo, hi, rfl, kG.st, by omega, by omega, fun n Hh n0 n1 kh => ⟨line5 (by simp), fun p5 hp5 => ?_⟩⟩
            have si : Same Hh (upd Hh p5 (.tup [.int n])) := Same.add hp5
            have ei : (upd Hh p5 (.tup [.int n])) p5 = some (.tup [.int n]) := upd_same
            generalize upd Hh p5 (.tup [.int n]) = Hi at si ei ⊢
            refine ⟨_, _, _, _, rfl, rfl, Same.tup si (kh.tup (SqT.of (sf _ _ ed2))), SqT.of ei, line5 (by simp), (fun z => by cases z), (fun _ z => by cases z), fun _ _ p6 hp6 => ?_⟩
            have kI := ((kG.trans kh).same si).add (o := .tup ([.str wd, .int d] ++ [.int n])) hp6
            rcases hwd with ⟨w1, rfl⟩ | ⟨w1, rfl⟩ | ⟨w1, rfl⟩ | ⟨w1, rfl⟩ | ⟨w1, rfl⟩
            · omega
            · exact q (.set d n) _ _ ⟨⟨by omega, by omega⟩, by omega, by omega⟩ trivial trivial kI upd_same
            · exact q (.high d n) _ _ ⟨⟨by omega, by omega⟩, by omega, by omega⟩ trivial trivial kI upd_same
            · omega
            · omega
        · rw [decide_eq_false c3]
          refine iteF ?_
          refine ⟨_, rfl, S, 3, rfl, kk.st, by decide, by decide, fun r H5 r0 r1 k5 => ⟨rfl, ?_⟩⟩
          refine ⟨_, rfl, _, rfl, _, _, rfl, rfl, S, m + 1, rfl, (kk.trans k5).st, by omega, by omega, fun g0 H6 g1 g2 k6 => ?_⟩
          have k7 := (kk.trans k5).trans k6
          refine ⟨fun σ H' => ∃ (fb : Bool) (g : Int), σ = [some (.ref S.st), some (.int p), some (.int m), some (.int way), some (.int d), some (.int a), some (.int b), none, none, none, some (.bl fb), some (.int g)] ∧ H' = H6 ∧ 0 ≤ g ∧ g ≤ m ∧ (fb = false → near g p), ?_, ?_⟩
          · refine ⟨_, rfl, _, rfl, ?_⟩
            cases hfar : decide (V.int r = V.int 0) with
            | true => exact iteF ⟨true, g0, rfl, rfl, g1, by omega, fun z => by cases z⟩
            | false =>
              refine iteT ?_
              refine ⟨_, rfl, _, rfl, _, _, rfl, rfl, _, rfl, _, _, rfl, rfl, _, rfl, _, _, rfl, _, _, rfl, _, _, rfl, _, _, rfl, ?_⟩
              have bound : ∀ t : Int, (if (if (if p - 15 < (if g0 < p + 16 then g0 else p + 16) then (if g0 < p + 16 then g0 else p + 16) else p - 15) < m then (if p - 15 < (if g0 < p + 16 then g0 else p + 16) then (if g0 < p + 16 then g0 else p + 16) else p - 15) else m) > 0 then (if (if p - 15 < (if g0 < p + 16 then g0 else p + 16) then (if g0 < p + 16 then g0 else p + 16) else p - 15) < m then (if p - 15 < (if g0 < p + 16 then g0 else p + 16) then (if g0 < p + 16 then g0 else p + 16) else p - 15) else m) else 0) = t → 0 ≤ t ∧ t ≤ m := by
                intro t ht
                repeat' split at ht
                all_goals omega
              generalize hT : (if (if (if p - 15 < (if g0 < p + 16 then g0 else p + 16) then (if g0 < p + 16 then g0 else p + 16) else p - 15) < m then (if p - 15 < (if g0 < p + 16 then g0 else p + 16) then (if g0 < p + 16 then g0 else p + 16) else p - 15) else m) > 0 then (if (if p - 15 < (if g0 < p + 16 then g0 else p + 16) then (if g0 < p + 16 then g0 else p + 16) else p - 15) < m then (if p - 15 < (if g0 < p + 16 then g0 else p + 16) then (if g0 < p + 16 then g0 else p + 16) else p - 15) else m) else 0) = t
              obtain ⟨t0, t1⟩ := bound t hT
              refine ⟨_, rfl, _, _, rfl, rfl, _, rfl, _, _, rfl, rfl, _, rfl, ?_⟩
              by_cases c6 : p - 15 ≤ t
              · rw [decide_eq_true c6]
                refine iteT ⟨_, rfl, _, _, rfl, rfl, _, _, rfl, rfl, _, rfl, ?_⟩
                refine ⟨!decide (t ≤ p + 16), t, rfl, rfl, t0, t1, fun z => ?_⟩
                have z2 : decide (t ≤ p + 16) = true := by
                  cases e : decide (t ≤ p + 16) with
                  | true => rfl
                  | false => rw [e] at z; cases z
                have z3 := of_decide_eq_true z2
                exact ⟨by omega, by omega⟩
              · rw [decide_eq_false c6]
                exact iteF ⟨_, rfl, true, t, rfl, rfl, t0, t1, fun z => by cases z⟩
          · rintro σ' H' ⟨fb, g, rfl, rfl, hg0, hg1, hn⟩
            refine ⟨_, rfl, rfl, _, rfl, ?_⟩
            by_cases c8 : way = 8
            · rw [decide_eq_true (congrArg V.int c8)]
              refine iteT ⟨rfl, fun l H7 hl s7 e7 => ⟨_, rfl, S, 7, rfl, k7.st.same s7, by decide, by decide, fun r H8 r0 r1 k8 => ?_⟩⟩
              obtain ⟨k, rfl, hk⟩ := nat_of r0 r1
              have hk : k < 7 := hk
              obtain ⟨ls, hls⟩ := k7.st.lst
              have nl : l ≠ S.st := Ne.symm (ne_of_none hls hl)
              refine ⟨_, _, _, _, rfl, rfl, k8.lst nl (SqL.of e7), at_nm hk, ?_⟩
              refine ⟨_, rfl, _, rfl, line5 (by simp), laid fun q' H9 _ s9 h9 => q (.jump k g fb) q' H9 ⟨hk, hg0, by omega⟩ ?_ hg1 (((k7.same s7).trans k8).same s9) h9⟩
              cases fb with
              | true => trivial
              | false => exact hn rfl
            · rw [decide_eq_false (fun z => c8 (V.int.inj z))]
              refine iteF ⟨_, rfl, _, rfl, line5 (by simp), laid fun q' H9 _ s9 h9 => q (.call g fb) q' H9 ⟨hg0, by omega⟩ ?_ hg1 (k7.same s9) h9⟩
              cases fb with
              | true => trivial
              | false => exact hn rfl
end
end Bm
set_option maxHeartbeats 1600000
namespace Bm
open PySem PySem.Spec PyProof.Rows L2
/-! sum of a tuple -/
def rSumT (K : PySem.W.Frag) : List V → Hp → VK → Prop := fun vs H Q => ∃ (a : Addr) (ns : List Int), vs = [V.ref a] ∧ SqT K H a (ns.map V.int) ∧ Q (.int ns.sum) H
theorem cr_sumT {X : Cx} (hc : X.calm = true) : CallR X (.builtin "sum") (rSumT X.K) := by
  intro pn s0 σ G ps us Q J rp ⟨a, zs, ep, st, q⟩
  subst ep
  obtain ⟨its, rv, tup, _⟩ := J.tuple st
  rw [Vals.ref1 rp]
  have ai := rv.ints
  obtain ⟨ys, ey⟩ := ai.allInts.items
  have nz : numsOf (intItems ys).toList = zs := ey ▸ ai.numsOf
  rw [nums_intItems] at nz
  rw [ey] at tup
  refine PySem.W.ktm_sumG (J.ok.hd hc) tup fun g1 tk t2 k2 => ?_
  rw [preSum_eq, List.take_of_length_le (by simp)]
  rw [nz]
  exact ⟨.int _, G, J.kept k2, ⟨_, rfl⟩, q⟩
theorem inV_strs (z : Str) (l : List Str) : inV (.str z) (l.map V.str) = l.any fun y => y == z := by
  unfold inV
  rw [List.any_map]
  rfl
theorem ixs {l : List Str} {k : Nat} (e : l[k]? = some (nm l k) ∧ ∀ m, m < k → l[m]? ≠ some (nm l k)) : (l.map V.str)[k]? = some (.str (nm l k)) ∧ eqV (.str (nm l k)) (.str (nm l k)) = true ∧
    ∀ (m : Nat) (z' : V), m < k → (l.map V.str)[m]? = some z' → eqV z' (.str (nm l k)) = false := by
  refine ⟨by rw [List.getElem?_map, e.1]; rfl, ?_, fun m z' hm hz => ?_⟩
  · show (nm l k == nm l k) = true
    exact beq_self_eq_true _
  · rw [List.getElem?_map] at hz
    cases em : l[m]? with
    | none => rw [em] at hz; cases hz
    | some y =>
      rw [em] at hz
      have ey : z' = .str y := (Option.some.inj hz).symm
      rw [ey]
      show (y == nm l k) = false
      refine beq_eq_false_iff_ne.mpr fun z => ?_
      rw [z] at em
      exact e.2 m hm em
theorem sg_in : ∀ k, k < 7 → (SG.any fun y => y == nm SG k) = true := by decide +kernel
theorem sm_in : ∀ k, k < 8 → (SG.any fun y => y == nm SM k) = false ∧ (SM.any fun y => y == nm SM k) = true := by decide +kernel
def FV : List Str := ["plus", "set", "high", "load", "store"]
theorem fv_at : ∀ k, k < 5 → (FV[k]? = some (nm FV k) ∧ ∀ m, m < k → FV[m]? ≠ some (nm FV k)) ∧ (SG.any fun y => y == nm FV k) = false ∧ (SM.any fun y => y == nm FV k) = false ∧ inV (.str (nm FV k)) [.str "jump", .str "call"] = false ∧
  inV (.str (nm FV k)) [.str "set", .str "high"] = decide (k = 1 ∨ k = 2) := by decide +kernel
theorem jc_in : (SG.any fun y => y == ("jump" : Str)) = false ∧ (SM.any fun y => y == ("jump" : Str)) = false ∧ (SG.any fun y => y == ("call" : Str)) = false ∧ (SM.any fun y => y == ("call" : Str)) = false ∧
  inV (.str "jump") [.str "jump", .str "call"] = true ∧ inV (.str "call") [.str "jump", .str "call"] = true := by decide +kernel
section
variable {P : Program} {w : World} {K : PySem.W.Frag} {mg : Str → Option Value} {base : Heap} {f : Addr} {fd : FuncData} {dvs : List V}
/-! _law_words -/
def spLWords (K : PySem.W.Frag) : Sp := fun vs H Q _ => ∃ (a : Addr) (d : De) (p : Int), vs = [.ref a, .int p] ∧ SqT K H a d.vals ∧ d.ok ∧ ∀ q H', Same H H' → H' q = some (.tup (vInts (d.words p))) → Q (.ref q) H'
abbrev N__law_words : List Str := ["_law_deed_here", "_law_place", "_law_word", "_law_rest", "_law_when", "_law_form", "_law_found"]
theorem sc__law_words : FnScope ["_law_deed_here", "_law_place", "_law_word", "_law_rest", "_law_when", "_law_form", "_law_found"] ["_law_deed_here", "_law_place"] (defScope s__law_words) := ⟨rfl, rfl, rfl, by decide +kernel, rfl, by decide +kernel, by decide +kernel⟩
theorem De.vals_cons (d : De) : ∃ z r, d.vals = .str z :: r := by cases d <;> exact ⟨_, _, rfl⟩
theorem ok_lwords (F : FunD K "_law_words" "_law_words" (defArgs s__law_words) (defBody s__law_words) (defScope s__law_words) dvs [] f fd) (k__law_plain : KnNm P w K mg base "_law_plain" SG) (k__law_pairs : KnNm P w K mg base "_law_pairs" SM) (k__law_times : KnNm P w K mg base "_law_times" TM)
    (g_sum : mg "sum" = none) (g_int : mg "int" = none) : FnOk P w K mg base CX0 2 f fd ["_law_deed_here", "_law_place"] (spLWords K) := by
  refine F.ok sc__law_words (fun vs H Q E h => ?_) (fun cdv A outer s H vs Q E hr h => ?_)
  · obtain ⟨a, d, p, rfl, _⟩ := h
    rfl
  · obtain ⟨a, d, p, rfl, hS, hok, q⟩ := h
    refine ⟨_, PSs.nox (pss_cons (ps_par (i := 2) (j := 3) rfl sc__law_words.nd rfl rfl (by decide) rfl rfl (pa_cons (pe_ix ix_tup (pv 0) pe_int (fun _ _ => rfl)) (pa_cons (pe_slice sl_tupA (pv 0) (po_some pe_int) po_none) pa_nil)) rfl)
      (pss_cons (ps_if (pt_cmpR op_in_seq (pv 2) (pk0 k__law_plain hr (by decide) rfl pass0) rfl) (pss_one (ps_ret (pe_tup (pa_cons (pe_op op_add (pe_op op_mul (pe_bm PySem.F.plainAttrs_list PySem.F.slot_list_index PySem.F.type_list_index mt_index (pk0 k__law_plain hr (by decide) rfl pass0) (pa_cons (pv 2) pa_nil)) pe_int) (pe_op op_mul (pe_callB (cr_sumT rfl) rfl g_sum (by decide +kernel) (pa_cons (pv 3) pa_nil)) pe_int)) pa_nil)))) pss_nil)
      (pss_cons (ps_if (pt_cmpR op_in_seq (pv 2) (pk0 k__law_pairs hr (by decide) rfl pass0) rfl) (pss_one (ps_ret (pe_tup (pa_cons (pe_op op_add (pe_op op_add (pe_op op_add (pe_op op_add pe_int (pe_op op_mul (pe_ix ix_tup (pv 3) pe_int (fun _ _ => rfl)) pe_int)) (pe_op op_mul (pe_ix ix_tup (pv 3) pe_int (fun _ _ => rfl)) pe_int)) (pe_op op_mul (pe_ix ix_tup (pv 3) pe_int (fun _ _ => rfl)) pe_int)) (pe_bm PySem.F.plainAttrs_list PySem.F.slot_list_index PySem.F.type_list_index mt_index (pk0 k__law_pairs hr (by decide) rfl pass0) (pa_cons (pv 2) pa_nil))) pa_nil)))) pss_nil)
      (pss_cons (ps_if (pt_cmpR op_in_seq (pv 2) (pe_tup (pa_cons pe_str (pa_cons pe_str pa_nil))) rfl) (pss_cons (ps_set (i := 4) sc__law_words.nd rfl (Or.inl rfl) (pe_ifExp (pt_cmpR op_eq (pv 2) pe_str (nomark _)) (pe_op op_mul (pe_bm PySem.F.plainAttrs_list PySem.F.slot_list_index PySem.F.type_list_index mt_index (pk0 k__law_times hr (by decide) rfl pass0) (pa_cons (pe_ix ix_tup (pv 3) pe_int (fun _ _ => rfl)) pa_nil)) pe_int) pe_int))
      (pss_cons (ps_set (i := 5) sc__law_words.nd rfl (Or.inl rfl) (pe_ix ix_list (pe_lst (pa_cons pe_int (pa_cons pe_int (pa_cons pe_int (pa_cons pe_int pa_nil))))) (pe_op op_add (pe_op op_mul pe_int (pe_callTy call_int1 rfl g_int (by decide +kernel) (pa_cons (pe_cmpR op_eq (pv 2) pe_str (nomark _)) pa_nil))) (pe_callTy call_int1 rfl g_int (by decide +kernel) (pa_cons (pe_ix ix_tup (pv 0) (pe_un un_neg pe_int) (fun _ _ => rfl)) pa_nil))) (fun _ _ => rfl)))
      (pss_one (ps_ret (pe_ifExp (pt_val (pe_ix ix_tup (pv 0) (pe_un un_neg pe_int) (fun _ _ => rfl))) (pe_tup (pa_cons (pe_op op_add (pv 5) (pv 4)) (pa_cons (pe_ix ix_tup (pv 0) (pe_un un_neg pe_int) (fun _ _ => rfl)) pa_nil))) (pe_tup (pa_cons (pe_op op_add (pe_op op_add (pv 5) (pv 4)) (pe_op op_modN (pe_op op_sub (pe_op op_sub (pe_ix ix_tup (pv 0) (pe_un un_neg pe_int) (fun _ _ => rfl)) (pv 1)) pe_int) pe_int)) pa_nil))))))) pss_nil)
      (pss_cons (ps_set (i := 6) sc__law_words.nd rfl (Or.inl rfl) (pe_op op_add (pe_op op_mul (pe_op op_add (pe_bm PySem.F.plainAttrs_list PySem.F.slot_list_index PySem.F.type_list_index mt_index (pe_lst (pa_cons pe_str (pa_cons pe_str (pa_cons pe_str (pa_cons pe_str (pa_cons pe_str pa_nil)))))) (pa_cons (pv 2) pa_nil)) pe_int) pe_int) (pe_op op_mul (pe_ix ix_tup (pv 3) pe_int (fun _ _ => rfl)) pe_int)))
      (pss_cons (ps_if (pt_cmpR op_in_seq (pv 2) (pe_tup (pa_cons pe_str (pa_cons pe_str pa_nil))) rfl) (pss_one (ps_ret (pe_tup (pa_cons (pe_op op_add (pv 6) (pe_ix ix_tup (pv 3) pe_int (fun _ _ => rfl))) pa_nil)))) pss_nil)
      (pss_one (ps_ret (pe_tup (pa_cons (pe_op op_add (pe_op op_add (pv 6) (pe_op op_mul (pe_ix ix_tup (pv 3) pe_int (fun _ _ => rfl)) pe_int)) (pe_op op_modN (pe_ix ix_tup (pv 3) pe_int (fun _ _ => rfl)) pe_int)) pa_nil)))))))))), ?_⟩
    have fin : ∀ (z z' : Int) (H3 : Hp), Same H H3 → d.words p = [z'] → z = z' → ∀ q', H3 q' = none → Q (.ref q') (upd H3 q' (.tup [.int z])) := fun z z' H3 s3 e1 e2 q' hq => q q' _ (Same.trans s3 (Same.add hq)) (by rw [upd_same, e1, e2]; rfl)
    have atT : ∀ (x0 x1 x2 : V), atI [x0, x1, x2] 2 = some x2 ∧ atI [x0, x1, x2] 1 = some x1 ∧ atI [x0, x1, x2] 0 = some x0 := fun x0 x1 x2 => ⟨atI_nat (j := 2) rfl, atI_nat (j := 1) rfl, atI_nat (j := 0) rfl⟩
    have at2 : ∀ (x0 x1 : V), atI [x0, x1] 1 = some x1 := fun x0 x1 => atI_nat (j := 1) rfl
    cases d with
    | sgl k =>
      have hk : k < 3 := hok
      have hk7 : k < 7 := Nat.lt_of_lt_of_le hk (by decide)
      have hS : SqT K H a [.str (nm SG k)] := hS
      refine ⟨_, rfl, _, _, _, _, rfl, rfl, hS, at0, _, rfl, _, rfl, a, _, rfl, hS, fun w => absurd w (not_whole_tail _ _), fun _ b hb => ⟨_, _, rfl, ?_⟩⟩
      have s1 : Same H (upd H b (.tup (cutV (.str (nm SG k) :: []) (some 1) none))) := Same.add hb
      have h1 : (upd H b (.tup (cutV (.str (nm SG k) :: []) (some 1) none))) b = some (.tup ([])) := upd_same.trans (congrArg (fun l => some (HO.tup l)) (cut_tail _ _))
      generalize upd H b (.tup (cutV (.str (nm SG k) :: []) (some 1) none)) = H1 at s1 h1 ⊢
      refine ⟨_, rfl, rfl, fun l1 H2 _ s2 h2 => ⟨_, _, rfl, .inl (SqL.of h2), rfl, flat_strs SG, _, rfl, ?_⟩⟩
      show if inV (.str (nm SG k)) (SG.map V.str) = true then _ else _
      rw [inV_strs, sg_in k hk7]
      refine iteT ⟨rfl, fun l2 H3 _ s3 h3 => ⟨.inl ⟨rfl, _, SqL.of h3⟩, _, rfl, _, _, _, _, _, rfl, rfl, SqL.of h3, rfl, flat_strs _, (ixs (sg_at k hk7)).1, (ixs (sg_at k hk7)).2.1, (ixs (sg_at k hk7)).2.2, ?_⟩⟩
      refine ⟨_, _, rfl, rfl, .inl ⟨by omega, by omega⟩, _, rfl, b, [], rfl, SqT.of (s3 _ _ (s2 _ _ h1)), _, _, rfl, rfl, .inl ⟨by decide, by decide⟩, _, _, rfl, rfl, line5 (by simp), ?_⟩
      exact fin _ _ H3 (Same.trans s1 (Same.trans s2 s3)) rfl (by show (k : Int) * 512 + ([] : List Int).sum * 64 = k * 512; simp)
    | reg k x =>
      obtain ⟨hk3, hk7, hx⟩ := hok
      have hx : 0 ≤ x ∧ x ≤ 7 := hx
      have hS : SqT K H a [.str (nm SG k), .int x] := hS
      refine ⟨_, rfl, _, _, _, _, rfl, rfl, hS, at0, _, rfl, _, rfl, a, _, rfl, hS, fun w => absurd w (not_whole_tail _ _), fun _ b hb => ⟨_, _, rfl, ?_⟩⟩
      have s1 : Same H (upd H b (.tup (cutV (.str (nm SG k) :: [.int x]) (some 1) none))) := Same.add hb
      have h1 : (upd H b (.tup (cutV (.str (nm SG k) :: [.int x]) (some 1) none))) b = some (.tup ([.int x])) := upd_same.trans (congrArg (fun l => some (HO.tup l)) (cut_tail _ _))
      generalize upd H b (.tup (cutV (.str (nm SG k) :: [.int x]) (some 1) none)) = H1 at s1 h1 ⊢
      refine ⟨_, rfl, rfl, fun l1 H2 _ s2 h2 => ⟨_, _, rfl, .inl (SqL.of h2), rfl, flat_strs SG, _, rfl, ?_⟩⟩
      show if inV (.str (nm SG k)) (SG.map V.str) = true then _ else _
      rw [inV_strs, sg_in k hk7]
      refine iteT ⟨rfl, fun l2 H3 _ s3 h3 => ⟨.inl ⟨rfl, _, SqL.of h3⟩, _, rfl, _, _, _, _, _, rfl, rfl, SqL.of h3, rfl, flat_strs _, (ixs (sg_at k hk7)).1, (ixs (sg_at k hk7)).2.1, (ixs (sg_at k hk7)).2.2, ?_⟩⟩
      refine ⟨_, _, rfl, rfl, .inl ⟨by omega, by omega⟩, _, rfl, b, [x], rfl, SqT.of (s3 _ _ (s2 _ _ h1)), _, _, rfl, rfl, .inl ⟨by simp; omega, by simp; omega⟩, _, _, rfl, rfl, line5 (by simp), ?_⟩
      exact fin _ _ H3 (Same.trans s1 (Same.trans s2 s3)) rfl (by show (k : Int) * 512 + ([x] : List Int).sum * 64 = k * 512 + x * 64; simp)
    | sum k x y z =>
      obtain ⟨hk, hx, hy, hz⟩ := hok
      have hx : 0 ≤ x ∧ x ≤ 7 := hx
      have hy : 0 ≤ y ∧ y ≤ 7 := hy
      have hz : 0 ≤ z ∧ z ≤ 7 := hz
      have hS : SqT K H a [.str (nm SM k), .int x, .int y, .int z] := hS
      refine ⟨_, rfl, _, _, _, _, rfl, rfl, hS, at0, _, rfl, _, rfl, a, _, rfl, hS, fun w => absurd w (not_whole_tail _ _), fun _ b hb => ⟨_, _, rfl, ?_⟩⟩
      have s1 : Same H (upd H b (.tup (cutV (.str (nm SM k) :: [.int x, .int y, .int z]) (some 1) none))) := Same.add hb
      have h1 : (upd H b (.tup (cutV (.str (nm SM k) :: [.int x, .int y, .int z]) (some 1) none))) b = some (.tup ([.int x, .int y, .int z])) := upd_same.trans (congrArg (fun l => some (HO.tup l)) (cut_tail _ _))
      generalize upd H b (.tup (cutV (.str (nm SM k) :: [.int x, .int y, .int z]) (some 1) none)) = H1 at s1 h1 ⊢
      refine ⟨_, rfl, rfl, fun l1 H2 _ s2 h2 => ⟨_, _, rfl, .inl (SqL.of h2), rfl, flat_strs SG, _, rfl, ?_⟩⟩
      show if inV (.str (nm SM k)) (SG.map V.str) = true then _ else _
      rw [inV_strs, (sm_in k hk).1]
      refine iteF ⟨_, rfl, rfl, fun l2 H3 _ s3 h3 => ⟨_, _, rfl, .inl (SqL.of h3), rfl, flat_strs SM, _, rfl, ?_⟩⟩
      show if inV (.str (nm SM k)) (SM.map V.str) = true then _ else _
      rw [inV_strs, (sm_in k hk).2]
      have h1' := SqT.of (K := K) (s3 _ _ (s2 _ _ h1))
      refine iteT ⟨_, rfl, _, _, _, _, rfl, rfl, h1', (atT _ _ _).2.2, _, _, rfl, rfl, .inl ⟨by omega, by omega⟩, _, _, rfl, rfl, _, rfl, _, _, _, _, rfl, rfl, h1', (atT _ _ _).2.1, _, _, rfl, rfl, .inl ⟨by omega, by omega⟩, _, _, rfl, rfl,
        _, rfl, _, _, _, _, rfl, rfl, h1', (atT _ _ _).1, _, _, rfl, rfl, .inl ⟨by omega, by omega⟩, _, _, rfl, rfl, rfl, fun l3 H4 _ s4 h4 => ⟨.inl ⟨rfl, _, SqL.of h4⟩, _, rfl, _, _, _, _, _, rfl, rfl, SqL.of h4, rfl, flat_strs _, (ixs (sm_at k hk)).1, (ixs (sm_at k hk)).2.1, (ixs (sm_at k hk)).2.2, ?_⟩⟩
      refine ⟨_, _, rfl, rfl, line5 (by simp), ?_⟩
      exact fin _ _ H4 (Same.trans s1 (Same.trans s2 (Same.trans s3 s4))) rfl rfl
    | plus x y n =>
      have hS : SqT K H a [.str (nm FV 0), .int x, .int y, .int n] := hS
      have hx : 0 ≤ x ∧ x ≤ 7 := hok.1
      have hy : 0 ≤ y ∧ y ≤ 7 := hok.2.1
      have hn := hok.2.2
      refine ⟨_, rfl, _, _, _, _, rfl, rfl, hS, at0, _, rfl, _, rfl, a, _, rfl, hS, fun w => absurd w (not_whole_tail _ _), fun _ b hb => ⟨_, _, rfl, ?_⟩⟩
      have s1 : Same H (upd H b (.tup (cutV (.str (nm FV 0) :: [.int x, .int y, .int n]) (some 1) none))) := Same.add hb
      have h1 : (upd H b (.tup (cutV (.str (nm FV 0) :: [.int x, .int y, .int n]) (some 1) none))) b = some (.tup ([.int x, .int y, .int n])) := upd_same.trans (congrArg (fun l => some (HO.tup l)) (cut_tail _ _))
      generalize upd H b (.tup (cutV (.str (nm FV 0) :: [.int x, .int y, .int n]) (some 1) none)) = H1 at s1 h1 ⊢
      refine ⟨_, rfl, rfl, fun l1 H2 _ s2 h2 => ⟨_, _, rfl, .inl (SqL.of h2), rfl, flat_strs SG, _, rfl, ?_⟩⟩
      show if inV (.str (nm FV 0)) (SG.map V.str) = true then _ else _
      rw [inV_strs, (fv_at 0 (by decide)).2.1]
      refine iteF ⟨_, rfl, rfl, fun l2 H3 _ s3 h3 => ⟨_, _, rfl, .inl (SqL.of h3), rfl, flat_strs SM, _, rfl, ?_⟩⟩
      show if inV (.str (nm FV 0)) (SM.map V.str) = true then _ else _
      rw [inV_strs, (fv_at 0 (by decide)).2.2.1]
      refine iteF ⟨_, rfl, line5 (by simp), fun p3 hp3 => ?_⟩
      have s4 : Same H3 (upd H3 p3 (.tup [.str "jump", .str "call"])) := Same.add hp3
      have h4 : (upd H3 p3 (.tup [.str "jump", .str "call"])) p3 = some (.tup [.str "jump", .str "call"]) := upd_same
      generalize upd H3 p3 (.tup [.str "jump", .str "call"]) = H4 at s4 h4 ⊢
      refine ⟨_, _, rfl, .inr (SqT.of h4), rfl, rfl, _, rfl, ?_⟩
      show if inV (.str (nm FV 0)) [.str "jump", .str "call"] = true then _ else _
      rw [(fv_at 0 (by decide)).2.2.2.1]
      have h1' := SqT.of (K := K) (s4 _ _ (s3 _ _ (s2 _ _ h1)))
      have sA := Same.trans s1 (Same.trans s2 (Same.trans s3 s4))
      refine iteF ⟨line5 (by simp), fun l5 hl5 => ?_⟩
      have s5 : Same H4 (upd H4 l5 (.lst [.str "plus", .str "set", .str "high", .str "load", .str "store"])) := Same.add hl5
      have h5 : (upd H4 l5 (.lst [.str "plus", .str "set", .str "high", .str "load", .str "store"])) l5 = some (.lst [.str "plus", .str "set", .str "high", .str "load", .str "store"]) := upd_same
      generalize upd H4 l5 (.lst [.str "plus", .str "set", .str "high", .str "load", .str "store"]) = H5 at s5 h5 ⊢
      have h5 : H5 l5 = some (.lst (FV.map V.str)) := h5
      have h1'' := Same.tup s5 h1'
      refine ⟨.inl ⟨rfl, _, SqL.of h5⟩, _, rfl, _, _, _, _, _, rfl, rfl, SqL.of h5, rfl, flat_strs _, (ixs (fv_at 0 (by decide)).1).1, (ixs (fv_at 0 (by decide)).1).2.1, (ixs (fv_at 0 (by decide)).1).2.2, ?_⟩
      refine ⟨_, _, rfl, rfl, _, _, rfl, rfl, .inl ⟨by decide, by decide⟩, _, rfl, _, _, _, _, rfl, rfl, h1'', at0, _, _, rfl, rfl, .inl ⟨by omega, by omega⟩, _, _, rfl, rfl, ?_⟩
      refine ⟨_, rfl, line5 (by simp), fun p6 hp6 => ?_⟩
      have s6 : Same H5 (upd H5 p6 (.tup [.str "set", .str "high"])) := Same.add hp6
      have h6 : (upd H5 p6 (.tup [.str "set", .str "high"])) p6 = some (.tup [.str "set", .str "high"]) := upd_same
      generalize upd H5 p6 (.tup [.str "set", .str "high"]) = H6 at s6 h6 ⊢
      refine ⟨_, _, rfl, .inr (SqT.of h6), rfl, rfl, _, rfl, ?_⟩
      have h1s := Same.tup s6 h1''
      show if inV (.str (nm FV 0)) [.str "set", .str "high"] = true then _ else _
      rw [(fv_at 0 (by decide)).2.2.2.2]
      refine iteF ⟨_, rfl, _, rfl, _, _, _, _, rfl, rfl, h1s, (atT _ _ _).2.1, _, _, rfl, rfl, .inl ⟨by omega, by omega⟩, _, _, rfl, rfl, _, rfl, _, _, _, _, rfl, rfl, h1s, (atT _ _ _).1, _, _, rfl, rfl, (show (64 : Int) ≠ 0 by decide), _, _, rfl, rfl, line5 (by simp), ?_⟩
      refine fin _ _ H6 (Same.trans sA (Same.trans s5 s6)) rfl ?_
      show (((0 : Nat) : Int) + 2) * 4096 + x * 512 + y * 64 + n.fmod 64 = 8192 + x * 512 + y * 64 + n % 64
      rw [Int.fmod_eq_emod_of_nonneg _ (by decide)]
      omega
    | set x n =>
      have hS : SqT K H a [.str (nm FV 1), .int x, .int n] := hS
      have hx : 0 ≤ x ∧ x ≤ 7 := hok.1
      have hn := hok.2
      refine ⟨_, rfl, _, _, _, _, rfl, rfl, hS, at0, _, rfl, _, rfl, a, _, rfl, hS, fun w => absurd w (not_whole_tail _ _), fun _ b hb => ⟨_, _, rfl, ?_⟩⟩
      have s1 : Same H (upd H b (.tup (cutV (.str (nm FV 1) :: [.int x, .int n]) (some 1) none))) := Same.add hb
      have h1 : (upd H b (.tup (cutV (.str (nm FV 1) :: [.int x, .int n]) (some 1) none))) b = some (.tup ([.int x, .int n])) := upd_same.trans (congrArg (fun l => some (HO.tup l)) (cut_tail _ _))
      generalize upd H b (.tup (cutV (.str (nm FV 1) :: [.int x, .int n]) (some 1) none)) = H1 at s1 h1 ⊢
      refine ⟨_, rfl, rfl, fun l1 H2 _ s2 h2 => ⟨_, _, rfl, .inl (SqL.of h2), rfl, flat_strs SG, _, rfl, ?_⟩⟩
      show if inV (.str (nm FV 1)) (SG.map V.str) = true then _ else _
      rw [inV_strs, (fv_at 1 (by decide)).2.1]
      refine iteF ⟨_, rfl, rfl, fun l2 H3 _ s3 h3 => ⟨_, _, rfl, .inl (SqL.of h3), rfl, flat_strs SM, _, rfl, ?_⟩⟩
      show if inV (.str (nm FV 1)) (SM.map V.str) = true then _ else _
      rw [inV_strs, (fv_at 1 (by decide)).2.2.1]
      refine iteF ⟨_, rfl, line5 (by simp), fun p3 hp3 => ?_⟩
      have s4 : Same H3 (upd H3 p3 (.tup [.str "jump", .str "call"])) := Same.add hp3
      have h4 : (upd H3 p3 (.tup [.str "jump", .str "call"])) p3 = some (.tup [.str "jump", .str "call"]) := upd_same
      generalize upd H3 p3 (.tup [.str "jump", .str "call"]) = H4 at s4 h4 ⊢
      refine ⟨_, _, rfl, .inr (SqT.of h4), rfl, rfl, _, rfl, ?_⟩
      show if inV (.str (nm FV 1)) [.str "jump", .str "call"] = true then _ else _
      rw [(fv_at 1 (by decide)).2.2.2.1]
      have h1' := SqT.of (K := K) (s4 _ _ (s3 _ _ (s2 _ _ h1)))
      have sA := Same.trans s1 (Same.trans s2 (Same.trans s3 s4))
      refine iteF ⟨line5 (by simp), fun l5 hl5 => ?_⟩
      have s5 : Same H4 (upd H4 l5 (.lst [.str "plus", .str "set", .str "high", .str "load", .str "store"])) := Same.add hl5
      have h5 : (upd H4 l5 (.lst [.str "plus", .str "set", .str "high", .str "load", .str "store"])) l5 = some (.lst [.str "plus", .str "set", .str "high", .str "load", .str "store"]) := upd_same
      generalize upd H4 l5 (.lst [.str "plus", .str "set", .str "high", .str "load", .str "store"]) = H5 at s5 h5 ⊢
      have h5 : H5 l5 = some (.lst (FV.map V.str)) := h5
      have h1'' := Same.tup s5 h1'
      refine ⟨.inl ⟨rfl, _, SqL.of h5⟩, _, rfl, _, _, _, _, _, rfl, rfl, SqL.of h5, rfl, flat_strs _, (ixs (fv_at 1 (by decide)).1).1, (ixs (fv_at 1 (by decide)).1).2.1, (ixs (fv_at 1 (by decide)).1).2.2, ?_⟩
      refine ⟨_, _, rfl, rfl, _, _, rfl, rfl, .inl ⟨by decide, by decide⟩, _, rfl, _, _, _, _, rfl, rfl, h1'', at0, _, _, rfl, rfl, .inl ⟨by omega, by omega⟩, _, _, rfl, rfl, ?_⟩
      refine ⟨_, rfl, line5 (by simp), fun p6 hp6 => ?_⟩
      have s6 : Same H5 (upd H5 p6 (.tup [.str "set", .str "high"])) := Same.add hp6
      have h6 : (upd H5 p6 (.tup [.str "set", .str "high"])) p6 = some (.tup [.str "set", .str "high"]) := upd_same
      generalize upd H5 p6 (.tup [.str "set", .str "high"]) = H6 at s6 h6 ⊢
      refine ⟨_, _, rfl, .inr (SqT.of h6), rfl, rfl, _, rfl, ?_⟩
      have h1s := Same.tup s6 h1''
      show if inV (.str (nm FV 1)) [.str "set", .str "high"] = true then _ else _
      rw [(fv_at 1 (by decide)).2.2.2.2]
      refine iteT ⟨_, rfl, _, rfl, _, _, _, _, rfl, rfl, h1s, at2 _ _, _, _, rfl, rfl, line5 (by simp), ?_⟩
      refine fin _ _ H6 (Same.trans sA (Same.trans s5 s6)) rfl ?_
      show (((1 : Nat) : Int) + 2) * 4096 + x * 512 + n = 12288 + x * 512 + n
      omega
    | high x n =>
      have hS : SqT K H a [.str (nm FV 2), .int x, .int n] := hS
      have hx : 0 ≤ x ∧ x ≤ 7 := hok.1
      have hn := hok.2
      refine ⟨_, rfl, _, _, _, _, rfl, rfl, hS, at0, _, rfl, _, rfl, a, _, rfl, hS, fun w => absurd w (not_whole_tail _ _), fun _ b hb => ⟨_, _, rfl, ?_⟩⟩
      have s1 : Same H (upd H b (.tup (cutV (.str (nm FV 2) :: [.int x, .int n]) (some 1) none))) := Same.add hb
      have h1 : (upd H b (.tup (cutV (.str (nm FV 2) :: [.int x, .int n]) (some 1) none))) b = some (.tup ([.int x, .int n])) := upd_same.trans (congrArg (fun l => some (HO.tup l)) (cut_tail _ _))
      generalize upd H b (.tup (cutV (.str (nm FV 2) :: [.int x, .int n]) (some 1) none)) = H1 at s1 h1 ⊢
      refine ⟨_, rfl, rfl, fun l1 H2 _ s2 h2 => ⟨_, _, rfl, .inl (SqL.of h2), rfl, flat_strs SG, _, rfl, ?_⟩⟩
      show if inV (.str (nm FV 2)) (SG.map V.str) = true then _ else _
      rw [inV_strs, (fv_at 2 (by decide)).2.1]
      refine iteF ⟨_, rfl, rfl, fun l2 H3 _ s3 h3 => ⟨_, _, rfl, .inl (SqL.of h3), rfl, flat_strs SM, _, rfl, ?_⟩⟩
      show if inV (.str (nm FV 2)) (SM.map V.str) = true then _ else _
      rw [inV_strs, (fv_at 2 (by decide)).2.2.1]
      refine iteF ⟨_, rfl, line5 (by simp), fun p3 hp3 => ?_⟩
      have s4 : Same H3 (upd H3 p3 (.tup [.str "jump", .str "call"])) := Same.add hp3
      have h4 : (upd H3 p3 (.tup [.str "jump", .str "call"])) p3 = some (.tup [.str "jump", .str "call"]) := upd_same
      generalize upd H3 p3 (.tup [.str "jump", .str "call"]) = H4 at s4 h4 ⊢
      refine ⟨_, _, rfl, .inr (SqT.of h4), rfl, rfl, _, rfl, ?_⟩
      show if inV (.str (nm FV 2)) [.str "jump", .str "call"] = true then _ else _
      rw [(fv_at 2 (by decide)).2.2.2.1]
      have h1' := SqT.of (K := K) (s4 _ _ (s3 _ _ (s2 _ _ h1)))
      have sA := Same.trans s1 (Same.trans s2 (Same.trans s3 s4))
      refine iteF ⟨line5 (by simp), fun l5 hl5 => ?_⟩
      have s5 : Same H4 (upd H4 l5 (.lst [.str "plus", .str "set", .str "high", .str "load", .str "store"])) := Same.add hl5
      have h5 : (upd H4 l5 (.lst [.str "plus", .str "set", .str "high", .str "load", .str "store"])) l5 = some (.lst [.str "plus", .str "set", .str "high", .str "load", .str "store"]) := upd_same
      generalize upd H4 l5 (.lst [.str "plus", .str "set", .str "high", .str "load", .str "store"]) = H5 at s5 h5 ⊢
      have h5 : H5 l5 = some (.lst (FV.map V.str)) := h5
      have h1'' := Same.tup s5 h1'
      refine ⟨.inl ⟨rfl, _, SqL.of h5⟩, _, rfl, _, _, _, _, _, rfl, rfl, SqL.of h5, rfl, flat_strs _, (ixs (fv_at 2 (by decide)).1).1, (ixs (fv_at 2 (by decide)).1).2.1, (ixs (fv_at 2 (by decide)).1).2.2, ?_⟩
      refine ⟨_, _, rfl, rfl, _, _, rfl, rfl, .inl ⟨by decide, by decide⟩, _, rfl, _, _, _, _, rfl, rfl, h1'', at0, _, _, rfl, rfl, .inl ⟨by omega, by omega⟩, _, _, rfl, rfl, ?_⟩
      refine ⟨_, rfl, line5 (by simp), fun p6 hp6 => ?_⟩
      have s6 : Same H5 (upd H5 p6 (.tup [.str "set", .str "high"])) := Same.add hp6
      have h6 : (upd H5 p6 (.tup [.str "set", .str "high"])) p6 = some (.tup [.str "set", .str "high"]) := upd_same
      generalize upd H5 p6 (.tup [.str "set", .str "high"]) = H6 at s6 h6 ⊢
      refine ⟨_, _, rfl, .inr (SqT.of h6), rfl, rfl, _, rfl, ?_⟩
      have h1s := Same.tup s6 h1''
      show if inV (.str (nm FV 2)) [.str "set", .str "high"] = true then _ else _
      rw [(fv_at 2 (by decide)).2.2.2.2]
      refine iteT ⟨_, rfl, _, rfl, _, _, _, _, rfl, rfl, h1s, at2 _ _, _, _, rfl, rfl, line5 (by simp), ?_⟩
      refine fin _ _ H6 (Same.trans sA (Same.trans s5 s6)) rfl ?_
      show (((2 : Nat) : Int) + 2) * 4096 + x * 512 + n = 16384 + x * 512 + n
      omega
    | load x y n =>
      have hS : SqT K H a [.str (nm FV 3), .int x, .int y, .int n] := hS
      have hx : 0 ≤ x ∧ x ≤ 7 := hok.1
      have hy : 0 ≤ y ∧ y ≤ 7 := hok.2.1
      have hn := hok.2.2
      refine ⟨_, rfl, _, _, _, _, rfl, rfl, hS, at0, _, rfl, _, rfl, a, _, rfl, hS, fun w => absurd w (not_whole_tail _ _), fun _ b hb => ⟨_, _, rfl, ?_⟩⟩
      have s1 : Same H (upd H b (.tup (cutV (.str (nm FV 3) :: [.int x, .int y, .int n]) (some 1) none))) := Same.add hb
      have h1 : (upd H b (.tup (cutV (.str (nm FV 3) :: [.int x, .int y, .int n]) (some 1) none))) b = some (.tup ([.int x, .int y, .int n])) := upd_same.trans (congrArg (fun l => some (HO.tup l)) (cut_tail _ _))
      generalize upd H b (.tup (cutV (.str (nm FV 3) :: [.int x, .int y, .int n]) (some 1) none)) = H1 at s1 h1 ⊢
      refine ⟨_, rfl, rfl, fun l1 H2 _ s2 h2 => ⟨_, _, rfl, .inl (SqL.of h2), rfl, flat_strs SG, _, rfl, ?_⟩⟩
      show if inV (.str (nm FV 3)) (SG.map V.str) = true then _ else _
      rw [inV_strs, (fv_at 3 (by decide)).2.1]
      refine iteF ⟨_, rfl, rfl, fun l2 H3 _ s3 h3 => ⟨_, _, rfl, .inl (SqL.of h3), rfl, flat_strs SM, _, rfl, ?_⟩⟩
      show if inV (.str (nm FV 3)) (SM.map V.str) = true then _ else _
      rw [inV_strs, (fv_at 3 (by decide)).2.2.1]
      refine iteF ⟨_, rfl, line5 (by simp), fun p3 hp3 => ?_⟩
      have s4 : Same H3 (upd H3 p3 (.tup [.str "jump", .str "call"])) := Same.add hp3
      have h4 : (upd H3 p3 (.tup [.str "jump", .str "call"])) p3 = some (.tup [.str "jump", .str "call"]) := upd_same
      generalize upd H3 p3 (.tup [.str "jump", .str "call"]) = H4 at s4 h4 ⊢
      refine ⟨_, _, rfl, .inr (SqT.of h4), rfl, rfl, _, rfl, ?_⟩
      show if inV (.str (nm FV 3)) [.str "jump", .str "call"] = true then _ else _
      rw [(fv_at 3 (by decide)).2.2.2.1]
      have h1' := SqT.of (K := K) (s4 _ _ (s3 _ _ (s2 _ _ h1)))
      have sA := Same.trans s1 (Same.trans s2 (Same.trans s3 s4))
      refine iteF ⟨line5 (by simp), fun l5 hl5 => ?_⟩
      have s5 : Same H4 (upd H4 l5 (.lst [.str "plus", .str "set", .str "high", .str "load", .str "store"])) := Same.add hl5
      have h5 : (upd H4 l5 (.lst [.str "plus", .str "set", .str "high", .str "load", .str "store"])) l5 = some (.lst [.str "plus", .str "set", .str "high", .str "load", .str "store"]) := upd_same
      generalize upd H4 l5 (.lst [.str "plus", .str "set", .str "high", .str "load", .str "store"]) = H5 at s5 h5 ⊢
      have h5 : H5 l5 = some (.lst (FV.map V.str)) := h5
      have h1'' := Same.tup s5 h1'
      refine ⟨.inl ⟨rfl, _, SqL.of h5⟩, _, rfl, _, _, _, _, _, rfl, rfl, SqL.of h5, rfl, flat_strs _, (ixs (fv_at 3 (by decide)).1).1, (ixs (fv_at 3 (by decide)).1).2.1, (ixs (fv_at 3 (by decide)).1).2.2, ?_⟩
      refine ⟨_, _, rfl, rfl, _, _, rfl, rfl, .inl ⟨by decide, by decide⟩, _, rfl, _, _, _, _, rfl, rfl, h1'', at0, _, _, rfl, rfl, .inl ⟨by omega, by omega⟩, _, _, rfl, rfl, ?_⟩
      refine ⟨_, rfl, line5 (by simp), fun p6 hp6 => ?_⟩
      have s6 : Same H5 (upd H5 p6 (.tup [.str "set", .str "high"])) := Same.add hp6
      have h6 : (upd H5 p6 (.tup [.str "set", .str "high"])) p6 = some (.tup [.str "set", .str "high"]) := upd_same
      generalize upd H5 p6 (.tup [.str "set", .str "high"]) = H6 at s6 h6 ⊢
      refine ⟨_, _, rfl, .inr (SqT.of h6), rfl, rfl, _, rfl, ?_⟩
      have h1s := Same.tup s6 h1''
      show if inV (.str (nm FV 3)) [.str "set", .str "high"] = true then _ else _
      rw [(fv_at 3 (by decide)).2.2.2.2]
      refine iteF ⟨_, rfl, _, rfl, _, _, _, _, rfl, rfl, h1s, (atT _ _ _).2.1, _, _, rfl, rfl, .inl ⟨by omega, by omega⟩, _, _, rfl, rfl, _, rfl, _, _, _, _, rfl, rfl, h1s, (atT _ _ _).1, _, _, rfl, rfl, (show (64 : Int) ≠ 0 by decide), _, _, rfl, rfl, line5 (by simp), ?_⟩
      refine fin _ _ H6 (Same.trans sA (Same.trans s5 s6)) rfl ?_
      show (((3 : Nat) : Int) + 2) * 4096 + x * 512 + y * 64 + n.fmod 64 = 20480 + x * 512 + y * 64 + n
      rw [Int.fmod_eq_emod_of_nonneg _ (by decide)]
      omega
    | store x y n =>
      have hS : SqT K H a [.str (nm FV 4), .int x, .int y, .int n] := hS
      have hx : 0 ≤ x ∧ x ≤ 7 := hok.1
      have hy : 0 ≤ y ∧ y ≤ 7 := hok.2.1
      have hn := hok.2.2
      refine ⟨_, rfl, _, _, _, _, rfl, rfl, hS, at0, _, rfl, _, rfl, a, _, rfl, hS, fun w => absurd w (not_whole_tail _ _), fun _ b hb => ⟨_, _, rfl, ?_⟩⟩
      have s1 : Same H (upd H b (.tup (cutV (.str (nm FV 4) :: [.int x, .int y, .int n]) (some 1) none))) := Same.add hb
      have h1 : (upd H b (.tup (cutV (.str (nm FV 4) :: [.int x, .int y, .int n]) (some 1) none))) b = some (.tup ([.int x, .int y, .int n])) := upd_same.trans (congrArg (fun l => some (HO.tup l)) (cut_tail _ _))
      generalize upd H b (.tup (cutV (.str (nm FV 4) :: [.int x, .int y, .int n]) (some 1) none)) = H1 at s1 h1 ⊢
      refine ⟨_, rfl, rfl, fun l1 H2 _ s2 h2 => ⟨_, _, rfl, .inl (SqL.of h2), rfl, flat_strs SG, _, rfl, ?_⟩⟩
      show if inV (.str (nm FV 4)) (SG.map V.str) = true then _ else _
      rw [inV_strs, (fv_at 4 (by decide)).2.1]
      refine iteF ⟨_, rfl, rfl, fun l2 H3 _ s3 h3 => ⟨_, _, rfl, .inl (SqL.of h3), rfl, flat_strs SM, _, rfl, ?_⟩⟩
      show if inV (.str (nm FV 4)) (SM.map V.str) = true then _ else _
      rw [inV_strs, (fv_at 4 (by decide)).2.2.1]
      refine iteF ⟨_, rfl, line5 (by simp), fun p3 hp3 => ?_⟩
      have s4 : Same H3 (upd H3 p3 (.tup [.str "jump", .str "call"])) := Same.add hp3
      have h4 : (upd H3 p3 (.tup [.str "jump", .str "call"])) p3 = some (.tup [.str "jump", .str "call"]) := upd_same
      generalize upd H3 p3 (.tup [.str "jump", .str "call"]) = H4 at s4 h4 ⊢
      refine ⟨_, _, rfl, .inr (SqT.of h4), rfl, rfl, _, rfl, ?_⟩
      show if inV (.str (nm FV 4)) [.str "jump", .str "call"] = true then _ else _
      rw [(fv_at 4 (by decide)).2.2.2.1]
      have h1' := SqT.of (K := K) (s4 _ _ (s3 _ _ (s2 _ _ h1)))
      have sA := Same.trans s1 (Same.trans s2 (Same.trans s3 s4))
      refine iteF ⟨line5 (by simp), fun l5 hl5 => ?_⟩
      have s5 : Same H4 (upd H4 l5 (.lst [.str "plus", .str "set", .str "high", .str "load", .str "store"])) := Same.add hl5
      have h5 : (upd H4 l5 (.lst [.str "plus", .str "set", .str "high", .str "load", .str "store"])) l5 = some (.lst [.str "plus", .str "set", .str "high", .str "load", .str "store"]) := upd_same
      generalize upd H4 l5 (.lst [.str "plus", .str "set", .str "high", .str "load", .str "store"]) = H5 at s5 h5 ⊢
      have h5 : H5 l5 = some (.lst (FV.map V.str)) := h5
      have h1'' := Same.tup s5 h1'
      refine ⟨.inl ⟨rfl, _, SqL.of h5⟩, _, rfl, _, _, _, _, _, rfl, rfl, SqL.of h5, rfl, flat_strs _, (ixs (fv_at 4 (by decide)).1).1, (ixs (fv_at 4 (by decide)).1).2.1, (ixs (fv_at 4 (by decide)).1).2.2, ?_⟩
      refine ⟨_, _, rfl, rfl, _, _, rfl, rfl, .inl ⟨by decide, by decide⟩, _, rfl, _, _, _, _, rfl, rfl, h1'', at0, _, _, rfl, rfl, .inl ⟨by omega, by omega⟩, _, _, rfl, rfl, ?_⟩
      refine ⟨_, rfl, line5 (by simp), fun p6 hp6 => ?_⟩
      have s6 : Same H5 (upd H5 p6 (.tup [.str "set", .str "high"])) := Same.add hp6
      have h6 : (upd H5 p6 (.tup [.str "set", .str "high"])) p6 = some (.tup [.str "set", .str "high"]) := upd_same
      generalize upd H5 p6 (.tup [.str "set", .str "high"]) = H6 at s6 h6 ⊢
      refine ⟨_, _, rfl, .inr (SqT.of h6), rfl, rfl, _, rfl, ?_⟩
      have h1s := Same.tup s6 h1''
      show if inV (.str (nm FV 4)) [.str "set", .str "high"] = true then _ else _
      rw [(fv_at 4 (by decide)).2.2.2.2]
      refine iteF ⟨_, rfl, _, rfl, _, _, _, _, rfl, rfl, h1s, (atT _ _ _).2.1, _, _, rfl, rfl, .inl ⟨by omega, by omega⟩, _, _, rfl, rfl, _, rfl, _, _, _, _, rfl, rfl, h1s, (atT _ _ _).1, _, _, rfl, rfl, (show (64 : Int) ≠ 0 by decide), _, _, rfl, rfl, line5 (by simp), ?_⟩
      refine fin _ _ H6 (Same.trans sA (Same.trans s5 s6)) rfl ?_
      show (((4 : Nat) : Int) + 2) * 4096 + x * 512 + y * 64 + n.fmod 64 = 24576 + x * 512 + y * 64 + n
      rw [Int.fmod_eq_emod_of_nonneg _ (by decide)]
      omega
    | jump k g far =>
      obtain ⟨hk, hg0, hg1⟩ := hok
      have hS : SqT K H a [.str "jump", .str (nm TM k), .int g, .bl far] := hS
      refine ⟨_, rfl, _, _, _, _, rfl, rfl, hS, at0, _, rfl, _, rfl, a, _, rfl, hS, fun w => absurd w (not_whole_tail _ _), fun _ b hb => ⟨_, _, rfl, ?_⟩⟩
      have s1 : Same H (upd H b (.tup (cutV (.str "jump" :: [.str (nm TM k), .int g, .bl far]) (some 1) none))) := Same.add hb
      have h1 : (upd H b (.tup (cutV (.str "jump" :: [.str (nm TM k), .int g, .bl far]) (some 1) none))) b = some (.tup ([.str (nm TM k), .int g, .bl far])) := upd_same.trans (congrArg (fun l => some (HO.tup l)) (cut_tail _ _))
      generalize upd H b (.tup (cutV (.str "jump" :: [.str (nm TM k), .int g, .bl far]) (some 1) none)) = H1 at s1 h1 ⊢
      refine ⟨_, rfl, rfl, fun l1 H2 _ s2 h2 => ⟨_, _, rfl, .inl (SqL.of h2), rfl, flat_strs SG, _, rfl, ?_⟩⟩
      show if inV (.str ("jump")) (SG.map V.str) = true then _ else _
      rw [inV_strs, jc_in.1]
      refine iteF ⟨_, rfl, rfl, fun l2 H3 _ s3 h3 => ⟨_, _, rfl, .inl (SqL.of h3), rfl, flat_strs SM, _, rfl, ?_⟩⟩
      show if inV (.str ("jump")) (SM.map V.str) = true then _ else _
      rw [inV_strs, jc_in.2.1]
      refine iteF ⟨_, rfl, line5 (by simp), fun p3 hp3 => ?_⟩
      have s4 : Same H3 (upd H3 p3 (.tup [.str "jump", .str "call"])) := Same.add hp3
      have h4 : (upd H3 p3 (.tup [.str "jump", .str "call"])) p3 = some (.tup [.str "jump", .str "call"]) := upd_same
      generalize upd H3 p3 (.tup [.str "jump", .str "call"]) = H4 at s4 h4 ⊢
      refine ⟨_, _, rfl, .inr (SqT.of h4), rfl, rfl, _, rfl, ?_⟩
      show if inV (.str ("jump")) [.str "jump", .str "call"] = true then _ else _
      rw [jc_in.2.2.2.2.1]
      have h1' := SqT.of (K := K) (s4 _ _ (s3 _ _ (s2 _ _ h1)))
      have sA := Same.trans s1 (Same.trans s2 (Same.trans s3 s4))
      refine iteT ⟨_, rfl, rfl, _, rfl, iteT ⟨rfl, fun l3 H5 _ s5 h5 => ⟨.inl ⟨rfl, _, SqL.of h5⟩, _, rfl, _, _, _, _, rfl, rfl, Same.tup s5 h1', (atT _ _ _).2.2, _, _, _, _, _, rfl, rfl, SqL.of h5, rfl, flat_strs _, (ixs (tm_at k hk)).1, (ixs (tm_at k hk)).2.1, (ixs (tm_at k hk)).2.2, ?_⟩⟩⟩
      refine ⟨_, _, rfl, rfl, .inl ⟨by omega, by omega⟩, line5 (by simp), fun l6 hl6 => ?_⟩
      have s6 : Same H5 (upd H5 l6 (.lst [.int 28672, .int 32768, .int 36864, .int 40960])) := Same.add hl6
      have h6 : (upd H5 l6 (.lst [.int 28672, .int 32768, .int 36864, .int 40960])) l6 = some (.lst [.int 28672, .int 32768, .int 36864, .int 40960]) := upd_same
      generalize upd H5 l6 (.lst [.int 28672, .int 32768, .int 36864, .int 40960]) = H6 at s6 h6 ⊢
      have sB := Same.trans sA (Same.trans s5 s6)
      have hS6 := Same.tup sB hS
      have m1 : atI [V.str "jump", .str (nm TM k), .int g, .bl far] (-1) = some (.bl far) := rfl
      have m2 : atI [V.str "jump", .str (nm TM k), .int g, .bl far] (-2) = some (.int g) := rfl
      refine ⟨_, rfl, rfl, .inr ⟨_, rfl, _, _, rfl, rfl, .inl ⟨by decide, by decide⟩, _, rfl, _, rfl, _, _, _, _, rfl, rfl, hS6, m1, .inr ⟨_, rfl, _, _, rfl, rfl, ?_⟩⟩⟩
      cases far with
      | true =>
        have af : atI [V.int 28672, .int 32768, .int 36864, .int 40960] (2 * b2i (decide (V.str "jump" = V.str "call")) + b2i true) = some (.int 32768) := by decide +kernel
        refine ⟨_, _, _, _, rfl, rfl, SqL.of h6, af, _, rfl, _, rfl, _, _, _, _, rfl, rfl, hS6, m1, _, rfl, iteT ⟨_, rfl, _, rfl, _, _, rfl, rfl, _, rfl, _, rfl, _, _, _, _, rfl, rfl, hS6, m2, line5 (by simp), ?_⟩⟩
        exact fun q' hq => q q' _ (Same.trans sB (Same.add hq)) (by rw [upd_same]; rfl)
      | false =>
        have af : atI [V.int 28672, .int 32768, .int 36864, .int 40960] (2 * b2i (decide (V.str "jump" = V.str "call")) + b2i false) = some (.int 28672) := by decide +kernel
        refine ⟨_, _, _, _, rfl, rfl, SqL.of h6, af, _, rfl, _, rfl, _, _, _, _, rfl, rfl, hS6, m1, _, rfl, iteF ⟨_, rfl, _, rfl, _, _, rfl, rfl, _, rfl, _, rfl, _, _, _, _, rfl, rfl, hS6, m2, _, rfl, _, _, rfl, rfl, _, _, rfl, rfl, _, _, rfl, rfl, (show (32 : Int) ≠ 0 by decide), _, _, rfl, rfl, line5 (by simp), ?_⟩⟩
        refine fin _ _ H6 sB rfl ?_
        show 28672 + (k : Int) * 512 + (g - p - 1).fmod 32 = 28672 + k * 512 + (g - p - 1) % 32
        rw [Int.fmod_eq_emod_of_nonneg _ (by decide)]
    | call g far =>
      have hS : SqT K H a [.str "call", .int g, .bl far] := hS
      refine ⟨_, rfl, _, _, _, _, rfl, rfl, hS, at0, _, rfl, _, rfl, a, _, rfl, hS, fun w => absurd w (not_whole_tail _ _), fun _ b hb => ⟨_, _, rfl, ?_⟩⟩
      have s1 : Same H (upd H b (.tup (cutV (.str "call" :: [.int g, .bl far]) (some 1) none))) := Same.add hb
      have h1 : (upd H b (.tup (cutV (.str "call" :: [.int g, .bl far]) (some 1) none))) b = some (.tup ([.int g, .bl far])) := upd_same.trans (congrArg (fun l => some (HO.tup l)) (cut_tail _ _))
      generalize upd H b (.tup (cutV (.str "call" :: [.int g, .bl far]) (some 1) none)) = H1 at s1 h1 ⊢
      refine ⟨_, rfl, rfl, fun l1 H2 _ s2 h2 => ⟨_, _, rfl, .inl (SqL.of h2), rfl, flat_strs SG, _, rfl, ?_⟩⟩
      show if inV (.str ("call")) (SG.map V.str) = true then _ else _
      rw [inV_strs, jc_in.2.2.1]
      refine iteF ⟨_, rfl, rfl, fun l2 H3 _ s3 h3 => ⟨_, _, rfl, .inl (SqL.of h3), rfl, flat_strs SM, _, rfl, ?_⟩⟩
      show if inV (.str ("call")) (SM.map V.str) = true then _ else _
      rw [inV_strs, jc_in.2.2.2.1]
      refine iteF ⟨_, rfl, line5 (by simp), fun p3 hp3 => ?_⟩
      have s4 : Same H3 (upd H3 p3 (.tup [.str "jump", .str "call"])) := Same.add hp3
      have h4 : (upd H3 p3 (.tup [.str "jump", .str "call"])) p3 = some (.tup [.str "jump", .str "call"]) := upd_same
      generalize upd H3 p3 (.tup [.str "jump", .str "call"]) = H4 at s4 h4 ⊢
      refine ⟨_, _, rfl, .inr (SqT.of h4), rfl, rfl, _, rfl, ?_⟩
      show if inV (.str ("call")) [.str "jump", .str "call"] = true then _ else _
      rw [jc_in.2.2.2.2.2]
      have sA := Same.trans s1 (Same.trans s2 (Same.trans s3 s4))
      have dn : decide (V.str "call" = V.str "jump") = false := by decide +kernel
      refine iteT ⟨_, rfl, rfl, _, rfl, ?_⟩
      rw [dn]
      refine iteF ⟨line5 (by simp), fun l6 hl6 => ?_⟩
      have s6 : Same H4 (upd H4 l6 (.lst [.int 28672, .int 32768, .int 36864, .int 40960])) := Same.add hl6
      have h6 : (upd H4 l6 (.lst [.int 28672, .int 32768, .int 36864, .int 40960])) l6 = some (.lst [.int 28672, .int 32768, .int 36864, .int 40960]) := upd_same
      generalize upd H4 l6 (.lst [.int 28672, .int 32768, .int 36864, .int 40960]) = H6 at s6 h6 ⊢
      have sB := Same.trans sA s6
      have hS6 := Same.tup sB hS
      have m1 : atI [V.str "call", .int g, .bl far] (-1) = some (.bl far) := rfl
      have m2 : atI [V.str "call", .int g, .bl far] (-2) = some (.int g) := rfl
      refine ⟨_, rfl, rfl, .inr ⟨_, rfl, _, _, rfl, rfl, .inl ⟨by decide, by decide⟩, _, rfl, _, rfl, _, _, _, _, rfl, rfl, hS6, m1, .inr ⟨_, rfl, _, _, rfl, rfl, ?_⟩⟩⟩
      cases far with
      | true =>
        have af : atI [V.int 28672, .int 32768, .int 36864, .int 40960] (2 * b2i (decide (V.str "call" = V.str "call")) + b2i true) = some (.int 40960) := by decide +kernel
        refine ⟨_, _, _, _, rfl, rfl, SqL.of h6, af, _, rfl, _, rfl, _, _, _, _, rfl, rfl, hS6, m1, _, rfl, iteT ⟨_, rfl, _, rfl, _, _, rfl, rfl, _, rfl, _, rfl, _, _, _, _, rfl, rfl, hS6, m2, line5 (by simp), ?_⟩⟩
        exact fun q' hq => q q' _ (Same.trans sB (Same.add hq)) (by rw [upd_same]; rfl)
      | false =>
        have af : atI [V.int 28672, .int 32768, .int 36864, .int 40960] (2 * b2i (decide (V.str "call" = V.str "call")) + b2i false) = some (.int 36864) := by decide +kernel
        refine ⟨_, _, _, _, rfl, rfl, SqL.of h6, af, _, rfl, _, rfl, _, _, _, _, rfl, rfl, hS6, m1, _, rfl, iteF ⟨_, rfl, _, rfl, _, _, rfl, rfl, _, rfl, _, rfl, _, _, _, _, rfl, rfl, hS6, m2, _, rfl, _, _, rfl, rfl, _, _, rfl, rfl, _, _, rfl, rfl, (show (32 : Int) ≠ 0 by decide), _, _, rfl, rfl, line5 (by simp), ?_⟩⟩
        refine fin _ _ H6 sB rfl ?_
        show 36864 + 0 + (g - p - 1).fmod 32 = 36864 + (g - p - 1) % 32
        rw [Int.fmod_eq_emod_of_nonneg _ (by decide)]
        omega
end
end Bm
set_option maxHeartbeats 1600000
namespace Bm
open PySem PySem.Spec PyProof.Rows L2
theorem Dp.same {K : PySem.W.Frag} {H H' : Hp} (e : Same H H') : ∀ {v : V} {d : PyData}, Dp K H v d → Dp K H' v d := by
  intro v d h
  refine Dp.rec (motive_1 := fun v d _ => Dp K H' v d) (motive_2 := fun vs ds _ => DpAll K H' vs ds) .non .bl .int .str (fun h _ ih => .lst (e.seq h) ih) (fun h _ ih => .tup (Same.tup e h) ih) .nil (fun _ _ h1 h2 => .cons h1 h2) h
theorem DpAll.at {K : PySem.W.Frag} {H : Hp} : ∀ {xs : List V} {ds : List PyData} {i : Nat} {d : PyData}, DpAll K H xs ds → ds[i]? = some d → ∃ v, xs[i]? = some v ∧ Dp K H v d
  | _, _, i, d, .nil, h => by simp at h
  | _, _, 0, d, .cons h1 _, h => ⟨_, rfl, by have e := Option.some.inj h; rw [← e]; exact h1⟩
  | _, _, i + 1, d, .cons _ h2, h => by
    obtain ⟨v, e1, e2⟩ := DpAll.at (i := i) (d := d) h2 h
    exact ⟨v, e1, e2⟩
theorem DpAll.len {K : PySem.W.Frag} {H : Hp} : ∀ {xs : List V} {ds : List PyData}, DpAll K H xs ds → xs.length = ds.length
  | _, _, .nil => rfl
  | _, _, .cons _ h => congrArg Nat.succ (DpAll.len h)
theorem kit_seq {K : PySem.W.Frag} {t : String} {b1 b2 : Bool} (h1 : kitB t "tuple" = some b1) (h2 : kitB t "list" = some b2) : PySem.W.kitAny K (.type t) [.type "tuple", .type "list"] = some (b1 || b2) :=
  kitAny_cons (kit_ty h1) (fun e => kitAny_cons (kit_ty h2) (fun e2 => by rw [e, e2]; rfl) (fun e2 => by rw [e, e2]; rfl)) (fun e => by rw [e]; rfl)
theorem two_cls : Paired ClsV [.ty "tuple", .ty "list"] [.type "tuple", .type "list"] := .cons (.ty _) (.cons (.ty _) .nil)
theorem depth_mem : ∀ {ds : List PyData} {d : PyData}, d ∈ ds → d.depth ≤ PyData.depthAll ds
  | x :: ds, d, h => by
    simp only [PyData.depthAll]
    rcases List.mem_cons.mp h with e | h
    · rw [e]; exact Nat.le_max_left _ _
    · exact Nat.le_trans (depth_mem h) (Nat.le_max_right _ _)
mutual
/-- no row of it is longer than it may be -/
def smallD : PyData → Prop
  | .list xs => xs.length ≤ 100000 ∧ smallA xs
  | .tuple xs => xs.length ≤ 100000 ∧ smallA xs
  | _ => True
def smallA : List PyData → Prop
  | [] => True
  | x :: xs => smallD x ∧ smallA xs
end
theorem smallA_mem : ∀ {ds : List PyData} {d : PyData}, smallA ds → d ∈ ds → smallD d
  | x :: ds, d, h, hm => by
    simp only [smallA] at h
    rcases List.mem_cons.mp hm with e | hm
    · rw [e]; exact h.1
    · exact smallA_mem h.2 hm
section
variable {P : Program} {w : World} {K : PySem.W.Frag} {mg : Str → Option Value} {base : Heap} {f : Addr} {fd : FuncData} {dvs : List V}
/-! _law_same, of the same data twice -/
def spSame (K : PySem.W.Frag) (n : Nat) : Sp := fun vs H Q _ => ∃ (x y : V) (d : PyData), vs = [x, y] ∧ Dp K H x d ∧ Dp K H y d ∧ d.depth < n ∧ smallD d ∧ ∀ H', Same H H' → Q (.bl true) H'
abbrev N__law_same : List Str := ["_law_found", "_law_due", "_law_alike", "_law_k"]
theorem sc__law_same : FnScope ["_law_found", "_law_due", "_law_alike", "_law_k"] ["_law_found", "_law_due"] (defScope s__law_same) := ⟨rfl, rfl, rfl, by decide +kernel, rfl, by decide +kernel, by decide +kernel⟩
theorem ok_same {n : Nat} (F : FunD K "_law_same" "_law_same" (defArgs s__law_same) (defBody s__law_same) (defScope s__law_same) dvs [] f fd) (g_isinstance : mg "isinstance" = none) (g_tuple : mg "tuple" = none) (g_list : mg "list" = none) (g_bool : mg "bool" = none) (g_int : mg "int" = none) (g_len : mg "len" = none) (g_range : mg "range" = none)
    (k__law_same : Kn P w K mg base CX0 n "_law_same" ["_law_found", "_law_due"] [] (spSame K n)) : FnOk P w K mg base CX0 (n + 1) f fd ["_law_found", "_law_due"] (spSame K (n + 1)) := by
  refine F.ok sc__law_same (fun vs H Q E h => ?_) (fun cdv A outer s H vs Q E hr h => ?_)
  · obtain ⟨x, y, d, rfl, _⟩ := h
    rfl
  · obtain ⟨x, y, d, rfl, hx, hy, hd, hsm, q⟩ := h
    refine ⟨_, PSs.nox (pss_cons (ps_if (pt_val (pe_callB call_isiT rfl g_isinstance (by decide +kernel) (pa_cons (pv 1) (pa_cons (pe_tup (pa_cons (pe_bltn (v := .ty "tuple") rfl g_tuple (by decide +kernel) rfl) (pa_cons (pe_bltn (v := .ty "list") rfl g_list (by decide +kernel) rfl) pa_nil))) pa_nil)))) (pss_cons (ps_if (PW.pt (pw_or (pt_not (pt_val (pe_callB call_isiT rfl g_isinstance (by decide +kernel) (pa_cons (pv 0) (pa_cons (pe_tup (pa_cons (pe_bltn (v := .ty "tuple") rfl g_tuple (by decide +kernel) rfl) (pa_cons (pe_bltn (v := .ty "list") rfl g_list (by decide +kernel) rfl) pa_nil))) pa_nil))))) (pw_or1 (pt_cmpR op_ne (pe_callB call_isi rfl g_isinstance (by decide +kernel) (pa_cons (pv 0) (pa_cons (pe_bltn (v := .ty "list") rfl g_list (by decide +kernel) rfl) pa_nil))) (pe_callB call_isi rfl g_isinstance (by decide +kernel) (pa_cons (pv 1) (pa_cons (pe_bltn (v := .ty "list") rfl g_list (by decide +kernel) rfl) pa_nil))) (nomark _))))) (pss_one (ps_ret pe_bl)) pss_nil)
      (pss_cons (ps_if (pt_cmpR op_ne (pe_callB call_len rfl g_len boot_len (pa_cons (pv 0) pa_nil)) (pe_callB call_len rfl g_len boot_len (pa_cons (pv 1) pa_nil)) (nomark _)) (pss_one (ps_ret pe_bl)) pss_nil)
      (pss_one (ps_ret (pe_cmpR (op_eqD hr.units) (pe_lc (own := [("_law_k", 3)]) (g := gName 3) rfl sc__law_same.nd (pi_range1 rfl g_range (pa_cons (pe_callB call_len rfl g_len boot_len (pa_cons (pv 1) pa_nil)) pa_nil)) (blkOk_by (own := [("_law_k", 3)]) (N := N__law_same) (sc := defScope s__law_same) (by decide +kernel)) (fun _ _ _ _ _ => (pg_name (i := 3) sc__law_same.nd rfl (Or.inl rfl))) (fun _ _ _ _ _ => (pts_one (pt_not (pt_val (pk k__law_same hr (by omega) rfl pass0 (pa_cons (pe_ix (show IxR _ (rIx K) from ix_seq) (pv 0) (pv 3) (fun _ _ => rfl)) (pa_cons (pe_ix (show IxR _ (rIx K) from ix_seq) (pv 1) (pv 3) (fun _ _ => rfl)) pa_nil))))))) (fun _ _ _ _ _ => (pv 3))) (pe_lst pa_nil) (nomark _)))))) pss_nil)
      (pss_cons (ps_set (i := 2) sc__law_same.nd rfl (Or.inl rfl) (pe_and (pe_cmpR op_eq (pe_callB call_isi rfl g_isinstance (by decide +kernel) (pa_cons (pv 0) (pa_cons (pe_bltn (v := .ty "bool") rfl g_bool (by decide +kernel) rfl) pa_nil))) (pe_callB call_isi rfl g_isinstance (by decide +kernel) (pa_cons (pv 1) (pa_cons (pe_bltn (v := .ty "bool") rfl g_bool (by decide +kernel) rfl) pa_nil))) (nomark _)) (pe_one (pe_cmpR op_eq (pe_callB call_isi rfl g_isinstance (by decide +kernel) (pa_cons (pv 0) (pa_cons (pe_bltn (v := .ty "int") rfl g_int (by decide +kernel) rfl) pa_nil))) (pe_callB call_isi rfl g_isinstance (by decide +kernel) (pa_cons (pv 1) (pa_cons (pe_bltn (v := .ty "int") rfl g_int (by decide +kernel) rfl) pa_nil))) (nomark _)))))
      (pss_one (ps_ret (pe_and (pv 2) (pe_one (pe_cmpR op_eq (pv 0) (pv 1) (nomark _)))))))), ?_⟩
    refine ⟨_, rfl, line5 (by simp), fun tp htp => ?_⟩
    have s1 : Same H (upd H tp (.tup [.ty "tuple", .ty "list"])) := Same.add htp
    have h1 : (upd H tp (.tup [.ty "tuple", .ty "list"])) tp = some (.tup [.ty "tuple", .ty "list"]) := upd_same
    generalize upd H tp (.tup [.ty "tuple", .ty "list"]) = H1 at s1 h1 ⊢
    have qq : ∀ b : Bool, b = true → Q (.bl b) H1 := fun b e => by rw [e]; exact q H1 s1
    cases hx with
      | non =>
        cases hy
        refine ⟨_, _, _, Value.type _, _, _, rfl, h1, two_cls, Knd.ty (.non), kit_seq (b1 := false) (b2 := false) (by decide +kernel) (by decide +kernel), _, rfl, iteF ?_⟩
        refine ⟨_, rfl, _, _, _, _, _, rfl, .ty _, Knd.ty (.non), kit_ty (r := false) (by decide +kernel), _, rfl, _, _, _, _, _, rfl, .ty _, Knd.ty (.non), kit_ty (r := false) (by decide +kernel), rfl, _, rfl, iteT ?_⟩
        refine ⟨_, rfl, _, _, _, _, _, rfl, .ty _, Knd.ty (.non), kit_ty (r := false) (by decide +kernel), _, rfl, _, _, _, _, _, rfl, .ty _, Knd.ty (.non), kit_ty (r := false) (by decide +kernel), rfl, ?_⟩
        exact ⟨_, rfl, _, rfl, iteT ⟨_, rfl, _, rfl, rfl, qq _ (decide_eq_true rfl)⟩⟩
      | bl b =>
        cases hy
        refine ⟨_, _, _, Value.type _, _, _, rfl, h1, two_cls, Knd.ty (.bl b), kit_seq (b1 := false) (b2 := false) (by decide +kernel) (by decide +kernel), _, rfl, iteF ?_⟩
        refine ⟨_, rfl, _, _, _, _, _, rfl, .ty _, Knd.ty (.bl b), kit_ty (r := true) (by decide +kernel), _, rfl, _, _, _, _, _, rfl, .ty _, Knd.ty (.bl b), kit_ty (r := true) (by decide +kernel), rfl, _, rfl, iteT ?_⟩
        refine ⟨_, rfl, _, _, _, _, _, rfl, .ty _, Knd.ty (.bl b), kit_ty (r := true) (by decide +kernel), _, rfl, _, _, _, _, _, rfl, .ty _, Knd.ty (.bl b), kit_ty (r := true) (by decide +kernel), rfl, ?_⟩
        exact ⟨_, rfl, _, rfl, iteT ⟨_, rfl, _, rfl, rfl, qq _ (decide_eq_true rfl)⟩⟩
      | int i =>
        cases hy
        refine ⟨_, _, _, Value.type _, _, _, rfl, h1, two_cls, Knd.ty (.int i), kit_seq (b1 := false) (b2 := false) (by decide +kernel) (by decide +kernel), _, rfl, iteF ?_⟩
        refine ⟨_, rfl, _, _, _, _, _, rfl, .ty _, Knd.ty (.int i), kit_ty (r := false) (by decide +kernel), _, rfl, _, _, _, _, _, rfl, .ty _, Knd.ty (.int i), kit_ty (r := false) (by decide +kernel), rfl, _, rfl, iteT ?_⟩
        refine ⟨_, rfl, _, _, _, _, _, rfl, .ty _, Knd.ty (.int i), kit_ty (r := true) (by decide +kernel), _, rfl, _, _, _, _, _, rfl, .ty _, Knd.ty (.int i), kit_ty (r := true) (by decide +kernel), rfl, ?_⟩
        exact ⟨_, rfl, _, rfl, iteT ⟨_, rfl, _, rfl, rfl, qq _ (decide_eq_true rfl)⟩⟩
      | str z =>
        cases hy
        refine ⟨_, _, _, Value.type _, _, _, rfl, h1, two_cls, Knd.ty (.str z), kit_seq (b1 := false) (b2 := false) (by decide +kernel) (by decide +kernel), _, rfl, iteF ?_⟩
        refine ⟨_, rfl, _, _, _, _, _, rfl, .ty _, Knd.ty (.str z), kit_ty (r := false) (by decide +kernel), _, rfl, _, _, _, _, _, rfl, .ty _, Knd.ty (.str z), kit_ty (r := false) (by decide +kernel), rfl, _, rfl, iteT ?_⟩
        refine ⟨_, rfl, _, _, _, _, _, rfl, .ty _, Knd.ty (.str z), kit_ty (r := false) (by decide +kernel), _, rfl, _, _, _, _, _, rfl, .ty _, Knd.ty (.str z), kit_ty (r := false) (by decide +kernel), rfl, ?_⟩
        exact ⟨_, rfl, _, rfl, iteT ⟨_, rfl, _, rfl, rfl, qq _ (decide_eq_true rfl)⟩⟩
      | lst hq ha =>
        rename_i xa xs ds
        cases hy with
        | lst hq2 ha2 =>
          rename_i ya ys
          have hl1 := DpAll.len ha
          have hl2 := DpAll.len ha2
          refine ⟨_, _, _, Value.type _, _, _, rfl, h1, two_cls, Knd.ty (.lst (s1.seq hq2)), kit_seq (b1 := false) (b2 := true) (by decide +kernel) (by decide +kernel), _, rfl, iteT ?_⟩
          refine ⟨_, rfl, line5 (by simp), fun tp2 htp2 => ?_⟩
          have s2 : Same H1 (upd H1 tp2 (.tup [.ty "tuple", .ty "list"])) := Same.add htp2
          have h2 : (upd H1 tp2 (.tup [.ty "tuple", .ty "list"])) tp2 = some (.tup [.ty "tuple", .ty "list"]) := upd_same
          generalize upd H1 tp2 (.tup [.ty "tuple", .ty "list"]) = H2 at s2 h2 ⊢
          have S2 : ∀ {a : Addr} {l : List V}, SqL K H a l → SqL K H2 a l := fun h => (Same.trans s1 s2).seq h
          refine ⟨_, _, _, Value.type _, _, _, rfl, h2, two_cls, Knd.ty (.lst (S2 hq)), kit_seq (b1 := false) (b2 := true) (by decide +kernel) (by decide +kernel), _, rfl, iteF ?_⟩
          refine ⟨_, rfl, _, _, _, _, _, rfl, .ty _, Knd.ty (.lst (S2 hq)), kit_ty (r := true) (by decide +kernel), _, rfl, _, _, _, _, _, rfl, .ty _, Knd.ty (.lst (S2 hq2)), kit_ty (r := true) (by decide +kernel), rfl, _, rfl, iteF ?_⟩
          refine ⟨_, rfl, _, _, rfl, .inl ⟨_, S2 hq, rfl⟩, _, rfl, _, _, rfl, .inl ⟨_, S2 hq2, rfl⟩, rfl, _, rfl, ?_⟩
          rw [show (!decide (V.int (xs.length : Int) = V.int (ys.length : Int))) = false by rw [hl1, hl2, decide_eq_true rfl]; rfl]
          refine iteF ?_
          simp only [smallD] at hsm
          have small : (ys.length : Int) < 2 ^ 62 := by
            have := hsm.1
            omega
          refine ⟨_, rfl, _, _, rfl, .inl ⟨_, S2 hq2, rfl⟩, _, rfl, by omega, small, fun D hD => ?_⟩
          have s12 := Same.trans s1 s2
          refine lc_range (lo := 0) (n := ((ys.length : Nat) : Int).toNat) (fun i H3 => Same H2 H3 ∧ H3 D = some (.lst [])) ⟨Same.add hD, upd_same⟩ ?_ ?_
          · rintro i H3 hi ⟨p1, p2⟩
            have hi : i < ys.length := by
              rw [Int.toNat_natCast] at hi
              exact hi
            have hid : i < ds.length := by omega
            obtain ⟨u, u1, u2⟩ := DpAll.at ha (List.getElem?_eq_getElem hid)
            obtain ⟨v, v1, v2⟩ := DpAll.at ha2 (List.getElem?_eq_getElem hid)
            have s03 := Same.trans s12 p1
            have S3 : ∀ {a : Addr} {l : List V}, SqL K H a l → SqL K H3 a l := fun h => s03.seq h
            have e0 : (0 : Int) + (i : Nat) = ((i : Nat) : Int) := by omega
            refine ⟨rfl, _, rfl, _, rfl, .inl ⟨_, _, _, _, rfl, rfl, S3 hq, (congrArg (atI xs) e0).trans (atI_nat u1), ?_⟩⟩
            · refine ⟨_, rfl, _, rfl, .inl ⟨_, _, _, _, rfl, rfl, S3 hq2, (congrArg (atI ys) e0).trans (atI_nat v1), ?_⟩⟩
              refine ⟨u, v, ds[i], rfl, Dp.same s03 u2, Dp.same s03 v2, ?_, smallA_mem hsm.2 (List.getElem_mem hid), fun H4 s4 => ⟨_, rfl, iteF ⟨Same.trans p1 s4, s4 _ _ p2⟩⟩⟩
              have hm := depth_mem (List.getElem_mem hid)
              simp only [PyData.depth] at hd
              omega
          · rintro H3 ⟨p1, p2⟩
            refine ⟨line5 (by simp), fun p4 hp4 => ?_⟩
            have s4 : Same H3 (upd H3 p4 (.lst [])) := Same.add hp4
            have h4 : (upd H3 p4 (.lst [])) p4 = some (.lst []) := upd_same
            generalize upd H3 p4 (.lst []) = H4 at s4 h4 ⊢
            refine ⟨.list [], .list [], .lst (SqL.of (s4 _ _ p2)) .nil, .lst (SqL.of h4) .nil, by decide +kernel, by decide +kernel, ?_⟩
            exact q _ (Same.trans s12 (Same.trans p1 s4))
      | tup hq ha =>
        rename_i xa xs ds
        cases hy with
        | tup hq2 ha2 =>
          rename_i ya ys
          have hl1 := DpAll.len ha
          have hl2 := DpAll.len ha2
          refine ⟨_, _, _, Value.type _, _, _, rfl, h1, two_cls, Knd.ty (.tup (Same.tup s1 hq2)), kit_seq (b1 := true) (b2 := false) (by decide +kernel) (by decide +kernel), _, rfl, iteT ?_⟩
          refine ⟨_, rfl, line5 (by simp), fun tp2 htp2 => ?_⟩
          have s2 : Same H1 (upd H1 tp2 (.tup [.ty "tuple", .ty "list"])) := Same.add htp2
          have h2 : (upd H1 tp2 (.tup [.ty "tuple", .ty "list"])) tp2 = some (.tup [.ty "tuple", .ty "list"]) := upd_same
          generalize upd H1 tp2 (.tup [.ty "tuple", .ty "list"]) = H2 at s2 h2 ⊢
          have S2 : ∀ {a : Addr} {l : List V}, SqT K H a l → SqT K H2 a l := fun h => Same.tup (Same.trans s1 s2) h
          refine ⟨_, _, _, Value.type _, _, _, rfl, h2, two_cls, Knd.ty (.tup (S2 hq)), kit_seq (b1 := true) (b2 := false) (by decide +kernel) (by decide +kernel), _, rfl, iteF ?_⟩
          refine ⟨_, rfl, _, _, _, _, _, rfl, .ty _, Knd.ty (.tup (S2 hq)), kit_ty (r := false) (by decide +kernel), _, rfl, _, _, _, _, _, rfl, .ty _, Knd.ty (.tup (S2 hq2)), kit_ty (r := false) (by decide +kernel), rfl, _, rfl, iteF ?_⟩
          refine ⟨_, rfl, _, _, rfl, .inr ⟨_, S2 hq, rfl⟩, _, rfl, _, _, rfl, .inr ⟨_, S2 hq2, rfl⟩, rfl, _, rfl, ?_⟩
          rw [show (!decide (V.int (xs.length : Int) = V.int (ys.length : Int))) = false by rw [hl1, hl2, decide_eq_true rfl]; rfl]
          refine iteF ?_
          simp only [smallD] at hsm
          have small : (ys.length : Int) < 2 ^ 62 := by
            have := hsm.1
            omega
          refine ⟨_, rfl, _, _, rfl, .inr ⟨_, S2 hq2, rfl⟩, _, rfl, by omega, small, fun D hD => ?_⟩
          have s12 := Same.trans s1 s2
          refine lc_range (lo := 0) (n := ((ys.length : Nat) : Int).toNat) (fun i H3 => Same H2 H3 ∧ H3 D = some (.lst [])) ⟨Same.add hD, upd_same⟩ ?_ ?_
          · rintro i H3 hi ⟨p1, p2⟩
            have hi : i < ys.length := by
              rw [Int.toNat_natCast] at hi
              exact hi
            have hid : i < ds.length := by omega
            obtain ⟨u, u1, u2⟩ := DpAll.at ha (List.getElem?_eq_getElem hid)
            obtain ⟨v, v1, v2⟩ := DpAll.at ha2 (List.getElem?_eq_getElem hid)
            have s03 := Same.trans s12 p1
            have S3 : ∀ {a : Addr} {l : List V}, SqT K H a l → SqT K H3 a l := fun h => Same.tup s03 h
            have e0 : (0 : Int) + (i : Nat) = ((i : Nat) : Int) := by omega
            refine ⟨rfl, _, rfl, _, rfl, .inr (.inl ⟨_, _, _, _, rfl, rfl, S3 hq, (congrArg (atI xs) e0).trans (atI_nat u1), ?_⟩)⟩
            · refine ⟨_, rfl, _, rfl, .inr (.inl ⟨_, _, _, _, rfl, rfl, S3 hq2, (congrArg (atI ys) e0).trans (atI_nat v1), ?_⟩)⟩
              refine ⟨u, v, ds[i], rfl, Dp.same s03 u2, Dp.same s03 v2, ?_, smallA_mem hsm.2 (List.getElem_mem hid), fun H4 s4 => ⟨_, rfl, iteF ⟨Same.trans p1 s4, s4 _ _ p2⟩⟩⟩
              have hm := depth_mem (List.getElem_mem hid)
              simp only [PyData.depth] at hd
              omega
          · rintro H3 ⟨p1, p2⟩
            refine ⟨line5 (by simp), fun p4 hp4 => ?_⟩
            have s4 : Same H3 (upd H3 p4 (.lst [])) := Same.add hp4
            have h4 : (upd H3 p4 (.lst [])) p4 = some (.lst []) := upd_same
            generalize upd H3 p4 (.lst []) = H4 at s4 h4 ⊢
            refine ⟨.list [], .list [], .lst (SqL.of (s4 _ _ p2)) .nil, .lst (SqL.of h4) .nil, by decide +kernel, by decide +kernel, ?_⟩
            exact q _ (Same.trans s12 (Same.trans p1 s4))
end
end Bm
set_option maxHeartbeats 800000
namespace Bm
open PySem PySem.Spec PyProof.Rows L2
section
variable {X : Cx}
theorem op_inDk (hu : X.A.units + 1 < cLine) : OpR X (compareOp .In) (fun y x H Q => ∃ a o, x = .ref a ∧ DGet H a y o ∧ Q (.bl o.isSome) H) := by
  intro pins s σ H y x v u Q I ry rx h
  obtain ⟨a, o, rfl, g, q⟩ := h
  cases rx
  exact d_in hu I g ry fun s' I' => ⟨.bl o.isSome, H, I', rfl, q⟩
theorem op_notInDk (hu : X.A.units + 1 < cLine) : OpR X (compareOp .NotIn) (fun y x H Q => ∃ a o, x = .ref a ∧ DGet H a y o ∧ Q (.bl (!o.isSome)) H) := by
  intro pins s σ H y x v u Q I ry rx h
  obtain ⟨a, o, rfl, g, q⟩ := h
  cases rx
  exact d_notIn hu I g ry fun s' I' => ⟨.bl (!o.isSome), H, I', rfl, q⟩
/-- d.update(o), o another dict -/
def rDupd : V → List V → Hp → VK → Prop := fun x xs H Q => ∃ (d o : Addr) (kvs more : List (Key × V)), x = .ref d ∧ xs = [.ref o] ∧ d ≠ o ∧ H d = some (.dK kvs) ∧ H o = some (.dK more) ∧ kvs.length + more.length ≤ 1000 ∧ Q .non (upd H d (.dK (mergeK kvs more)))
theorem mt_dupd : MtR X "dict.update" rDupd := by
  intro pins s σ H x xs v us Q I rx rxs h
  obtain ⟨d, o, kvs, more, rfl, rfl, hne, hd, ho, hl, q⟩ := h
  cases rx
  obtain ⟨u, rfl, ru⟩ := rxs.one
  cases ru
  obtain ⟨z1, y1, vs1, rel1, dd1⟩ := dk_of I.hok hd
  obtain ⟨z2, y2, vs2, rel2, dd2⟩ := dk_of I.hok ho
  have e1 := rel1.length
  have e2 := rel2.length
  have hs : (1000 : Nat) ≤ sizeLine := by decide
  refine call_meetsIn PySem.F.slot_dict_update dd1.typeIs PySem.F.entry_dict_update (PySem.F.args_dict_update_2 _ _) (meets_dict_update (mixKind X.prog X.w) d o hne y2)
    ⟨vs1, vs2, dd1, dd2, by omega, fun h' dd' _ sb => ⟨.non, _, ?_, rfl, q⟩⟩
  have he : ∃ q, h'.get? d = some q := let ⟨q, _, _, hq, _⟩ := dd'; ⟨q, hq⟩
  exact d_write I (by rw [hd]; exact True.intro) sb he (dk_new (Nat.le_trans (length_mergeK more kvs) (by omega)) y1 (rel2.merge rel1) dd')
end
end Bm
set_option maxHeartbeats 800000
namespace Bm
open PySem PySem.Spec PyProof.Rows L2
/-! a dict from words to lists of spans -/
/-- all but p stays -/
def But (p : Addr) (H H' : Hp) : Prop := ∀ b o, b ≠ p → H b = some o → H' b = some o
theorem But.of {p : Addr} {H H' : Hp} (e : Same H H') : But p H H' := fun b o _ q => e b o q
theorem But.upd {p : Addr} {H : Hp} {o : HO} : But p H (upd H p o) := fun b u n q => by rw [upd_ne n]; exact q
theorem But.tup {K : PySem.W.Frag} {H H' : Hp} {p a : Addr} {kvs : List (Key × V)} {xs : List V} (e : But p H H') (hp : H p = some (.dK kvs)) (h : SqT K H a xs) : SqT K H' a xs := by
  rcases h with (h | ⟨o, h⟩) | h
  · exact .inl (.inl (e _ _ (fun z => by rw [z, hp] at h; cases h) h))
  · exact .inl (.inr ⟨o, e _ _ (fun z => by rw [z, hp] at h; cases h) h⟩)
  · exact .inr h
theorem But.lst {K : PySem.W.Frag} {H H' : Hp} {p a : Addr} {kvs : List (Key × V)} {xs : List V} (e : But p H H') (hp : H p = some (.dK kvs)) (h : SqL K H a xs) : SqL K H' a xs := by
  rcases h with (h | ⟨o, h⟩) | h
  · exact .inl (.inl (e _ _ (fun z => by rw [z, hp] at h; cases h) h))
  · exact .inl (.inr ⟨o, e _ _ (fun z => by rw [z, hp] at h; cases h) h⟩)
  · exact .inr h
/-- a list of spans -/
inductive Spans (K : PySem.W.Frag) (H : Hp) : List V → List (Int × Int) → Prop
  | nil : Spans K H [] []
  | cons {t : Addr} {lo hi : Int} {vs : List V} {rs : List (Int × Int)} : SqT K H t [.int lo, .int hi] → Spans K H vs rs → Spans K H (.ref t :: vs) ((lo, hi) :: rs)
theorem Spans.map {K : PySem.W.Frag} {H H' : Hp} (f : ∀ a xs, SqT K H a xs → SqT K H' a xs) : ∀ {vs : List V} {rs : List (Int × Int)}, Spans K H vs rs → Spans K H' vs rs
  | _, _, .nil => .nil
  | _, _, .cons h t => .cons (f _ _ h) (t.map f)
theorem Spans.len {K : PySem.W.Frag} {H : Hp} : ∀ {vs : List V} {rs : List (Int × Int)}, Spans K H vs rs → vs.length = rs.length
  | _, _, .nil => rfl
  | _, _, .cons _ t => congrArg Nat.succ t.len
theorem Spans.at_ {K : PySem.W.Frag} {H : Hp} : ∀ {vs : List V} {rs : List (Int × Int)} {i : Nat} {v : V}, Spans K H vs rs → vs[i]? = some v → ∃ t lo hi, v = .ref t ∧ rs[i]? = some (lo, hi) ∧ SqT K H t [.int lo, .int hi]
  | _, _, i, v, .nil, h => by simp at h
  | _, _, 0, v, .cons (t := t) (lo := lo) (hi := hi) h1 _, h => ⟨t, lo, hi, (Option.some.inj h).symm, rfl, h1⟩
  | _, _, i + 1, v, .cons _ h2, h => Spans.at_ (i := i) h2 h
def Row (K : PySem.W.Frag) (H : Hp) (v : V) (rs : List (Int × Int)) : Prop := ∃ l vs, v = .ref l ∧ SqL K H l vs ∧ Spans K H vs rs
theorem Row.map {K : PySem.W.Frag} {H H' : Hp} {v : V} {rs : List (Int × Int)} (f : ∀ a xs, SqT K H a xs → SqT K H' a xs) (g : ∀ a xs, SqL K H a xs → SqL K H' a xs) (h : Row K H v rs) : Row K H' v rs := by
  obtain ⟨l, vs, e, h1, h2⟩ := h
  exact ⟨l, vs, e, g _ _ h1, h2.map f⟩
inductive Tab (K : PySem.W.Frag) (H : Hp) : List (Key × V) → List (Str × List (Int × Int)) → Prop
  | nil : Tab K H [] []
  | cons {z : Str} {v : V} {rs : List (Int × Int)} {kvs : List (Key × V)} {T : List (Str × List (Int × Int))} : Row K H v rs → Tab K H kvs T → Tab K H ((.inr z, v) :: kvs) ((z, rs) :: T)
theorem Tab.map {K : PySem.W.Frag} {H H' : Hp} (f : ∀ a xs, SqT K H a xs → SqT K H' a xs) (g : ∀ a xs, SqL K H a xs → SqL K H' a xs) : ∀ {kvs : List (Key × V)} {T : List (Str × List (Int × Int))}, Tab K H kvs T → Tab K H' kvs T
  | _, _, .nil => .nil
  | _, _, .cons h t => .cons (h.map f g) (t.map f g)
theorem Tab.same {K : PySem.W.Frag} {H H' : Hp} {kvs : List (Key × V)} {T : List (Str × List (Int × Int))} (e : Same H H') (h : Tab K H kvs T) : Tab K H' kvs T := h.map (fun _ _ q => Same.tup e q) (fun _ _ q => e.seq q)
theorem Tab.but {K : PySem.W.Frag} {H H' : Hp} {p : Addr} {l : List (Key × V)} {kvs : List (Key × V)} {T : List (Str × List (Int × Int))} (e : But p H H') (hp : H p = some (.dK l)) (h : Tab K H kvs T) : Tab K H' kvs T := h.map (fun _ _ q => e.tup hp q) (fun _ _ q => e.lst hp q)
theorem Tab.app {K : PySem.W.Frag} {H : Hp} {k2 : List (Key × V)} {T2 : List (Str × List (Int × Int))} (h2 : Tab K H k2 T2) : ∀ {k1 : List (Key × V)} {T1 : List (Str × List (Int × Int))}, Tab K H k1 T1 → Tab K H (k1 ++ k2) (T1 ++ T2)
  | _, _, .nil => h2
  | _, _, .cons h t => .cons h (Tab.app h2 t)
theorem Tab.keys {K : PySem.W.Frag} {H : Hp} : ∀ {kvs : List (Key × V)} {T : List (Str × List (Int × Int))}, Tab K H kvs T → kvs.map (·.1) = T.map fun e => (Sum.inr e.1 : Key)
  | _, _, .nil => rfl
  | _, _, .cons h t => by rw [List.map_cons, List.map_cons, t.keys]
theorem Tab.look {K : PySem.W.Frag} {H : Hp} (z : Str) : ∀ {kvs : List (Key × V)} {T : List (Str × List (Int × Int))}, Tab K H kvs T → match T.lookup z with
    | some rs => ∃ v, valV kvs (.inr z) = some v ∧ Row K H v rs
    | none => valV kvs (.inr z) = none
  | _, _, .nil => rfl
  | _, _, .cons (z := y) (v := v) (rs := rs) (kvs := kvs) (T := T) h t => by
    rw [List.lookup_cons]
    by_cases e : y = z
    · subst e
      rw [beq_self_eq_true]
      exact ⟨v, valV_pos rfl, h⟩
    · have e2 : (z == y) = false := by
        refine beq_eq_false_iff_ne.mpr fun q => e q.symm
      rw [e2]
      have ne : ¬ ((Sum.inr y : Key), v).1 = Sum.inr z := fun q => e (Sum.inr.inj q)
      have := t.look z
      rw [valV_neg ne]
      exact this
theorem merge_new : ∀ {more kvs : List (Key × V)}, ((kvs ++ more).map (·.1)).Nodup → mergeK kvs more = kvs ++ more
  | [], kvs, _ => by simp [mergeK]
  | p :: more, kvs, h => by
    have h1 : valV kvs p.1 = none := by
      cases q : valV kvs p.1 with
      | none => rfl
      | some v =>
        have m := valV_in q
        rw [List.map_append, List.nodup_append] at h
        exact absurd rfl (h.2.2 _ m _ (List.mem_map.mpr ⟨p, List.mem_cons_self .., rfl⟩))
    show mergeK (putK kvs p.1 p.2) more = _
    rw [putK_new p.2 h1, merge_new (by simpa using h)]
    simp
theorem Tab.merge {K : PySem.W.Frag} {H : Hp} {k1 k2 : List (Key × V)} {T1 T2 : List (Str × List (Int × Int))} (h1 : Tab K H k1 T1) (h2 : Tab K H k2 T2) (nd : ((T1 ++ T2).map (·.1)).Nodup) : mergeK k1 k2 = k1 ++ k2 ∧ Tab K H (k1 ++ k2) (T1 ++ T2) := by
  have t := Tab.app h2 h1
  refine ⟨merge_new ?_, t⟩
  rw [t.keys, List.nodup_iff_pairwise_ne, List.pairwise_map]
  rw [List.nodup_iff_pairwise_ne, List.pairwise_map] at nd
  exact nd.imp fun h q => h (Sum.inr.inj q)
theorem Tab.len {K : PySem.W.Frag} {H : Hp} {kvs : List (Key × V)} {T : List (Str × List (Int × Int))} (h : Tab K H kvs T) : kvs.length = T.length := by
  have := congrArg List.length h.keys
  simpa using this
theorem Same.none {H H' : Hp} {p : Addr} (e : Same H H') (h : H' p = none) : H p = none := by
  cases q : H p with
  | none => rfl
  | some o =>
    rw [e p o q] at h
    cases h
/-- the table while it grows: H where it began; pr holds what a deed has behind its word, pg the span of a register -/
structure Kst (K : PySem.W.Frag) (H : Hp) (pd pr pg : Addr) (r : List V) (H' : Hp) (kvs : List (Key × V)) (T : List (Str × List (Int × Int))) : Prop where
  same : Same H H'
  rest : SqT K H' pr r
  g : SqT K H' pg [.int 0, .int 7]
  d : H' pd = some (.dK kvs)
  tab : Tab K H' kvs T
  new : H pd = none
section
variable {K : PySem.W.Frag} {H H' H'' : Hp} {pd pr pg p : Addr} {r : List V} {kvs more : List (Key × V)} {T U : List (Str × List (Int × Int))}
theorem Kst.add (k : Kst K H pd pr pg r H' kvs T) (e : Same H' H'') : Kst K H pd pr pg r H'' kvs T := ⟨Same.trans k.same e, Same.tup e k.rest, Same.tup e k.g, e _ _ k.d, k.tab.same e, k.new⟩
theorem Kst.put (k : Kst K H pd pr pg r H' kvs T) (hp : H' p = some (.dK [])) (hn : H p = none) (ne : pd ≠ p) (u : Tab K H' more U) : Kst K H pd pr pg r (upd H' p (.dK more)) kvs T ∧ Tab K (upd H' p (.dK more)) more U := by
  have b : But p H' (upd H' p (.dK more)) := But.upd
  exact ⟨⟨Same.mut k.same hn, b.tup hp k.rest, b.tup hp k.g, b _ _ ne k.d, k.tab.but b hp, k.new⟩, u.but b hp⟩
theorem Kst.join (k : Kst K H pd pr pg r H' kvs T) (u : Tab K H' more U) (nd : ((T ++ U).map (·.1)).Nodup) : mergeK kvs more = kvs ++ more ∧ Kst K H pd pr pg r (upd H' pd (.dK (kvs ++ more))) (kvs ++ more) (T ++ U) := by
  obtain ⟨e, t⟩ := k.tab.merge u nd
  have b : But pd H' (upd H' pd (.dK (kvs ++ more))) := But.upd
  exact ⟨e, Same.mut k.same k.new, b.tup k.d k.rest, b.tup k.d k.g, upd_same, t.but b k.d, k.new⟩
theorem merge0 {T : List (Str × List (Int × Int))} (u : Tab K H' more T) (nd : (T.map (·.1)).Nodup) : mergeK [] more = more := (Tab.merge (k1 := []) (T1 := []) .nil u nd).1
theorem row0 {l : Addr} (h : SqL K H' l []) : Row K H' (.ref l) [] := ⟨l, [], rfl, h, .nil⟩
end
end Bm
/-! lists of deeds made lean, as numbers go -/
namespace Bm
/-- a deed of a list: its goal is the number beside it -/
abbrev Ld := De × Nat
def goL (x : Ld) : Option Nat := if x.1.goes = true then some x.2 else none
def ajL (x : Ld) : Bool := match x.1 with
  | .jump 0 _ _ => true
  | _ => false
def haltsL (x : Ld) : Bool := match x.1 with
  | .sgl 0 => true
  | .sgl 2 => true
  | _ => false
def idleL (k : Nat) (x : Ld) : Bool := match x.1 with
  | .sgl 1 => true
  | .jump _ _ _ => decide (x.2 = k + 1)
  | _ => false
def nextL (k : Nat) (x : Ld) : List Nat := (goL x).toList ++ if (haltsL x || ajL x) = true then [] else [k + 1]
def endF (ls : List Ld) : Nat → Nat → Option Nat
  | 0, _ => none
  | n + 1, g => match ls[g]? with
    | some x => if ajL x = true then endF ls n x.2 else some g
    | none => some g
def endL (ls : List Ld) (g : Nat) : Option Nat := endF ls (ls.length + 1) g
def ledL (ls : List Ld) (k : Nat) (x : Ld) : Ld := if x.1.goes = true then (match endL ls x.2 with
    | some e => (x.1, e)
    | none => if ajL x = true then (x.1, k) else x) else x
def ledA (ls : List Ld) : List Ld := ls.mapIdx (ledL ls)
inductive RchL (ls : List Ld) : Nat → Prop
  | zero : 0 < ls.length → RchL ls 0
  | step {k j : Nat} {x : Ld} : RchL ls k → ls[k]? = some x → j ∈ nextL k x → j < ls.length → RchL ls j
open Classical in
noncomputable def keepL (ls : List Ld) (k : Nat) (x : Ld) : Bool := decide (RchL ls k) && !idleL k x
noncomputable def keeps (ls : List Ld) : List Bool := ls.mapIdx (keepL ls)
def tru (l : List Bool) : Nat := l.countP id
noncomputable def behL (ls : List Ld) (j : Nat) : Nat := tru ((keeps ls).take j)
def movedL (beh : Nat → Nat) (x : Ld) : Ld := if x.1.goes = true then (x.1, beh x.2) else x
noncomputable def shortL (ls : List Ld) : List Ld := ((ls.zip (keeps ls)).filter (·.2)).map fun p => movedL (behL ls) p.1
noncomputable def stepL (ls : List Ld) : List Ld := shortL (ledA ls)
noncomputable def leanN (ls : List Ld) : Nat → List Ld
  | 0 => ls
  | n + 1 => stepL (leanN ls n)
noncomputable def leanL (ls : List Ld) : List Ld := leanN ls (2 * ls.length + 2)
/-- all goals are numbers of the list -/
def OkL (ls : List Ld) : Prop := ∀ x ∈ ls, x.1.goes = true → x.2 ≤ ls.length
/-! round and round -/
theorem pigeon : ∀ (n : Nat) (f : Nat → Nat), (∀ i, i ≤ n → f i < n) → ∃ i j, i < j ∧ j ≤ n ∧ f i = f j
  | 0, f, h => absurd (h 0 (Nat.le_refl _)) (Nat.not_lt_zero _)
  | n + 1, f, h => by
    by_cases c : ∃ i, i ≤ n ∧ f i = f (n + 1)
    · obtain ⟨i, hi, e⟩ := c
      exact ⟨i, n + 1, by omega, Nat.le_refl _, e⟩
    · have c : ∀ i, i ≤ n → f i ≠ f (n + 1) := fun i hi e => c ⟨i, hi, e⟩
      obtain ⟨i, j, h1, h2, h3⟩ := pigeon n (fun i => if f i = n then f (n + 1) else f i) fun i hi => by
        have h1 := h i (by omega)
        have h2 := h (n + 1) (Nat.le_refl _)
        have h3 := c i hi
        show (if f i = n then f (n + 1) else f i) < n
        split <;> omega
      refine ⟨i, j, h1, by omega, ?_⟩
      have c1 := c i (by omega)
      have c2 := c j (by omega)
      have h3 : (if f i = n then f (n + 1) else f i) = (if f j = n then f (n + 1) else f j) := h3
      split at h3 <;> split at h3 <;> omega
def isAj (ls : List Ld) (g : Nat) : Bool := match ls[g]? with
  | some x => ajL x
  | none => false
def tgt (ls : List Ld) (g : Nat) : Nat := match ls[g]? with
  | some x => x.2
  | none => 0
def itL (ls : List Ld) : Nat → Nat → Nat
  | 0, g => g
  | n + 1, g => itL ls n (tgt ls g)
theorem itL_add (ls : List Ld) (g : Nat) : ∀ a b, itL ls (a + b) g = itL ls b (itL ls a g) := fun a => by
  induction a generalizing g with
  | zero => intro b; rw [Nat.zero_add]; rfl
  | succ a ih =>
    intro b
    rw [show a + 1 + b = (a + b) + 1 by omega]
    show itL ls (a + b) (tgt ls g) = itL ls b (itL ls a (tgt ls g))
    exact ih _ b
theorem endF_none {ls : List Ld} : ∀ {n g : Nat}, endF ls n g = none ↔ ∀ i, i < n → isAj ls (itL ls i g) = true
  | 0, g => ⟨fun _ i h => absurd h (Nat.not_lt_zero _), fun _ => rfl⟩
  | n + 1, g => by
    have ih := @endF_none ls n (tgt ls g)
    constructor
    · intro h i hi
      unfold endF at h
      cases e : ls[g]? with
      | none => rw [e] at h; cases h
      | some x =>
        rw [e] at h
        simp only at h
        by_cases c : ajL x = true
        · rw [if_pos c] at h
          have et : tgt ls g = x.2 := by unfold tgt; rw [e]
          rw [← et] at h
          cases i with
          | zero => show isAj ls g = true; unfold isAj; rw [e]; exact c
          | succ i => exact ih.mp h i (by omega)
        · rw [if_neg c] at h; cases h
    · intro h
      have h0 := h 0 (by omega)
      have h0 : isAj ls g = true := h0
      unfold isAj at h0
      unfold endF
      cases e : ls[g]? with
      | none => rw [e] at h0; cases h0
      | some x =>
        rw [e] at h0
        simp only at h0 ⊢
        have et : tgt ls g = x.2 := by unfold tgt; rw [e]
        rw [if_pos h0, ← et]
        exact ih.mpr fun i hi => h (i + 1) (by omega)
theorem isAj_lt {ls : List Ld} {g : Nat} (h : isAj ls g = true) : g < ls.length := by
  unfold isAj at h
  cases e : ls[g]? with
  | none => rw [e] at h; cases h
  | some x => exact (List.getElem?_eq_some_iff.mp e).1
/-- what leads on so often leads on for ever -/
theorem ever {ls : List Ld} {g : Nat} (h : endL ls g = none) : ∀ n, isAj ls (itL ls n g) = true := by
  have h := endF_none.mp h
  obtain ⟨i, j, hij, hj, e⟩ := pigeon ls.length (fun k => itL ls k g) fun k hk => isAj_lt (h k (by omega))
  have e : itL ls i g = itL ls j g := e
  intro n
  induction n using Nat.strongRecOn with
  | ind n ih =>
    by_cases c : n ≤ ls.length
    · exact h n (by omega)
    · have e2 : itL ls n g = itL ls (n - (j - i)) g := by
        rw [show n = j + (n - j) by omega, itL_add, ← e, ← itL_add]
        congr 1
        omega
      rw [e2]
      exact ih _ (by omega)
theorem ever_iff {ls : List Ld} {g : Nat} : endL ls g = none ↔ ∀ n, isAj ls (itL ls n g) = true := ⟨ever, fun h => endF_none.mpr fun i _ => h i⟩
theorem endF_end {ls : List Ld} : ∀ {n g e : Nat}, endF ls n g = some e → isAj ls e = false
  | 0, g, e, h => by cases h
  | n + 1, g, e, h => by
    unfold endF at h
    cases c : ls[g]? with
    | none =>
      rw [c] at h
      obtain rfl : g = e := Option.some.inj h
      unfold isAj
      rw [c]
    | some x =>
      rw [c] at h
      simp only at h
      by_cases d : ajL x = true
      · rw [if_pos d] at h
        exact endF_end h
      · rw [if_neg d] at h
        obtain rfl : g = e := Option.some.inj h
        unfold isAj
        rw [c]
        exact Bool.not_eq_true _ ▸ d
theorem aj_goes {x : Ld} (h : ajL x = true) : x.1.goes = true := by
  unfold ajL at h
  split at h
  · rename_i e
    rw [e]
    rfl
  · cases h
theorem endF_le {ls : List Ld} (ok : OkL ls) : ∀ {n g e : Nat}, g ≤ ls.length → endF ls n g = some e → e ≤ ls.length
  | 0, g, e, _, h => by cases h
  | n + 1, g, e, hg, h => by
    unfold endF at h
    cases c : ls[g]? with
    | none =>
      rw [c] at h
      obtain rfl : g = e := Option.some.inj h
      exact hg
    | some x =>
      rw [c] at h
      simp only at h
      by_cases d : ajL x = true
      · rw [if_pos d] at h
        exact endF_le ok (ok x (List.mem_of_getElem? c) (aj_goes d)) h
      · rw [if_neg d] at h
        obtain rfl : g = e := Option.some.inj h
        exact hg
theorem ledA_len (ls : List Ld) : (ledA ls).length = ls.length := List.length_mapIdx
theorem ledA_at (ls : List Ld) (k : Nat) : (ledA ls)[k]? = (ls[k]?).map (ledL ls k) := List.getElem?_mapIdx
theorem led_fst (ls : List Ld) (k : Nat) (x : Ld) : (ledL ls k x).1 = x.1 := by
  unfold ledL
  split
  · split
    · rfl
    · split <;> rfl
  · rfl
theorem aj_led (ls : List Ld) (k : Nat) (x : Ld) : ajL (ledL ls k x) = ajL x := by
  unfold ajL
  rw [led_fst]
theorem isAj_led (ls : List Ld) (g : Nat) : isAj (ledA ls) g = isAj ls g := by
  unfold isAj
  rw [ledA_at]
  cases ls[g]? with
  | none => rfl
  | some x => exact aj_led ls g x
theorem led_ok {ls : List Ld} (ok : OkL ls) : OkL (ledA ls) := fun y hy hg => by
  rw [ledA_len]
  obtain ⟨k, hk⟩ := List.getElem?_of_mem hy
  rw [ledA_at] at hk
  obtain ⟨x, hx, rfl⟩ := Option.map_eq_some_iff.mp hk
  rw [led_fst] at hg
  have hx2 := ok x (List.mem_of_getElem? hx) hg
  unfold ledL
  rw [if_pos hg]
  cases e : endL ls x.2 with
  | some j => exact endF_le ok hx2 e
  | none =>
    show (if ajL x = true then (x.1, k) else x).2 ≤ _
    split
    · exact Nat.le_of_lt (List.getElem?_eq_some_iff.mp hx).1
    · exact hx2
/-- what isn't led on is its own end -/
theorem endL_stop {ls : List Ld} {e : Nat} (h : isAj ls e = false) : endL ls e = some e := by
  unfold endL endF
  unfold isAj at h
  cases c : ls[e]? with
  | none => rfl
  | some x =>
    rw [c] at h
    show (if ajL x = true then _ else some e) = _
    exact if_neg (by have h : ajL x = false := h; rw [h]; decide)
theorem led_round {ls : List Ld} {g : Nat} (h : endL ls g = none) : endL (ledA ls) g = none := by
  have h := ever h
  have h0 : isAj ls g = true := h 0
  have tg : tgt (ledA ls) g = g := by
    unfold isAj at h0
    unfold tgt
    rw [ledA_at]
    cases e : ls[g]? with
    | none => rw [e] at h0; cases h0
    | some x =>
      rw [e] at h0
      show (ledL ls g x).2 = g
      have et : tgt ls g = x.2 := by unfold tgt; rw [e]
      have e2 : endL ls x.2 = none := ever_iff.mpr fun n => by
        have := h (n + 1)
        show isAj ls (itL ls n x.2) = true
        rw [← et]
        exact this
      unfold ledL
      rw [if_pos (aj_goes h0), e2]
      show (if ajL x = true then (x.1, g) else x).2 = g
      rw [if_pos h0]
  refine ever_iff.mpr fun n => ?_
  have : itL (ledA ls) n g = g := by
    induction n with
    | zero => rfl
    | succ n ih =>
      show itL (ledA ls) n (tgt (ledA ls) g) = g
      rw [tg]
      exact ih
  rw [this, isAj_led]
  exact h0
theorem led_led (ls : List Ld) : ledA (ledA ls) = ledA ls := by
  refine List.ext_getElem? fun k => ?_
  rw [ledA_at, ledA_at]
  cases e : ls[k]? with
  | none => rfl
  | some x =>
    show some (ledL (ledA ls) k (ledL ls k x)) = some (ledL ls k x)
    congr 1
    by_cases hg : x.1.goes = true
    · cases c : endL ls x.2 with
      | some j =>
        have e1 : ledL ls k x = (x.1, j) := by unfold ledL; rw [if_pos hg, c]
        rw [e1]
        have e2 : endL (ledA ls) j = some j := endL_stop (by rw [isAj_led]; exact endF_end c)
        unfold ledL
        rw [if_pos hg]
        show (match endL (ledA ls) j with
          | some e => (x.1, e)
          | none => if ajL (x.1, j) = true then (x.1, k) else (x.1, j)) = _
        rw [e2]
      | none =>
        by_cases ha : ajL x = true
        · have e1 : ledL ls k x = (x.1, k) := by unfold ledL; rw [if_pos hg, c]; exact if_pos ha
          rw [e1]
          have ek : endL ls k = none := by
            have et : tgt ls k = x.2 := by unfold tgt; rw [e]
            have h := ever c
            refine ever_iff.mpr fun n => ?_
            cases n with
            | zero => show isAj ls k = true; unfold isAj; rw [e]; exact ha
            | succ n =>
              show isAj ls (itL ls n (tgt ls k)) = true
              rw [et]
              exact h n
          have e2 := led_round ek
          unfold ledL
          rw [if_pos hg]
          show (match endL (ledA ls) k with
            | some e => (x.1, e)
            | none => if ajL (x.1, k) = true then (x.1, k) else (x.1, k)) = _
          rw [e2]
          show (if ajL (x.1, k) = true then (x.1, k) else (x.1, k)) = _
          split <;> rfl
        · have e1 : ledL ls k x = x := by unfold ledL; rw [if_pos hg, c]; exact if_neg ha
          rw [e1]
          unfold ledL
          rw [if_pos hg, led_round c]
          exact if_neg ha
    · have e1 : ∀ l : List Ld, ledL l k x = x := fun l => by unfold ledL; rw [if_neg hg]
      rw [e1, e1]
/-! made shorter -/
theorem keeps_len (ls : List Ld) : (keeps ls).length = ls.length := List.length_mapIdx
theorem keeps_at (ls : List Ld) (k : Nat) : (keeps ls)[k]? = (ls[k]?).map (keepL ls k) := List.getElem?_mapIdx
theorem zip_tru : ∀ (l : List Ld) (ks : List Bool), ks.length = l.length → ((l.zip ks).filter (·.2)).length = tru ks
  | [], [], _ => rfl
  | x :: l, b :: ks, h => by
    have ih := zip_tru l ks (by simpa using h)
    unfold tru at ih ⊢
    rw [List.zip_cons_cons, List.filter_cons, List.countP_cons]
    cases b
    · simpa using ih
    · simpa using ih
  | [], b :: ks, h => by simp at h
  | x :: l, [], h => by simp at h
theorem short_len (ls : List Ld) : (shortL ls).length = tru (keeps ls) := by
  unfold shortL
  rw [List.length_map]
  exact zip_tru ls (keeps ls) (keeps_len ls)
theorem tru_le (l : List Bool) : tru l ≤ l.length := List.countP_le_length
theorem short_le (ls : List Ld) : (shortL ls).length ≤ ls.length := by
  rw [short_len, ← keeps_len ls]
  exact tru_le _
theorem tru_take_le (l : List Bool) (j : Nat) : tru (l.take j) ≤ tru l := by
  unfold tru
  exact (List.take_sublist j l).countP_le
theorem short_ok (ls : List Ld) : OkL (shortL ls) := fun y hy hg => by
  rw [short_len]
  unfold shortL at hy
  obtain ⟨p, _, rfl⟩ := List.mem_map.mp hy
  unfold movedL at hg ⊢
  by_cases c : p.1.1.goes = true
  · rw [if_pos c]
    exact tru_take_le _ _
  · rw [if_neg c] at hg
    exact absurd hg c
theorem tru_all : ∀ {l : List Bool}, tru l = l.length → ∀ b ∈ l, b = true
  | [], _, b, h => by cases h
  | c :: l, h, b, hb => by
    have := tru_le l
    unfold tru at h this
    rw [List.countP_cons, List.length_cons] at h
    have hc : c = true := by
      cases c with
      | true => rfl
      | false => simp at h; omega
    rw [hc] at h hb
    rcases List.mem_cons.mp hb with e | e
    · exact e
    · exact tru_all (l := l) (by unfold tru; simp at h; simpa using h) b e
theorem tru_take {l : List Bool} (h : ∀ b ∈ l, b = true) {j : Nat} (hj : j ≤ l.length) : tru (l.take j) = j := by
  have : ∀ m : List Bool, (∀ b ∈ m, b = true) → tru m = m.length := fun m => by
    induction m with
    | nil => intro _; rfl
    | cons c m ih =>
      intro h
      have ih := ih fun b hb => h b (List.mem_cons_of_mem _ hb)
      unfold tru at ih ⊢
      rw [List.countP_cons, ih, h c (List.mem_cons_self ..)]
      rfl
  rw [this _ fun b hb => h b (List.mem_of_mem_take hb), List.length_take]
  omega
theorem zip_all : ∀ (l : List Ld) (ks : List Bool), ks.length = l.length → (∀ b ∈ ks, b = true) → ((l.zip ks).filter (·.2)).map (·.1) = l
  | [], [], _, _ => rfl
  | x :: l, b :: ks, h, hb => by
    have ih := zip_all l ks (by simpa using h) fun c hc => hb c (List.mem_cons_of_mem _ hc)
    obtain rfl := hb b (List.mem_cons_self ..)
    rw [List.zip_cons_cons, List.filter_cons]
    show List.map (·.1) ((x, true) :: _) = _
    rw [List.map_cons, ih]
  | [], b :: ks, h, _ => by simp at h
  | x :: l, [], h, _ => by simp at h
/-- none left out: the same -/
theorem short_same {ls : List Ld} (ok : OkL ls) (h : (shortL ls).length = ls.length) : shortL ls = ls ∧ ∀ k x, ls[k]? = some x → RchL ls k ∧ idleL k x = false := by
  rw [short_len, ← keeps_len ls] at h
  have hb := tru_all h
  refine ⟨?_, fun k x hx => ?_⟩
  · have e := zip_all ls (keeps ls) (keeps_len ls) hb
    have e2 : shortL ls = (((ls.zip (keeps ls)).filter (·.2)).map (·.1)).map (movedL (behL ls)) := by
      unfold shortL
      rw [List.map_map]
      rfl
    rw [e2, e]
    have : ∀ x ∈ ls, movedL (behL ls) x = x := fun x hx => by
      unfold movedL
      by_cases c : x.1.goes = true
      · rw [if_pos c]
        unfold behL
        rw [tru_take hb (by rw [keeps_len]; exact ok x hx c)]
      · rw [if_neg c]
    rw [List.map_congr_left this, List.map_id']
  · have : keepL ls k x = true := hb _ (List.mem_of_getElem? (i := k) (by rw [keeps_at, hx]; rfl))
    unfold keepL at this
    simp only [Bool.and_eq_true, decide_eq_true_eq, Bool.not_eq_true'] at this
    exact this
theorem step_ok (ls : List Ld) : OkL (stepL ls) := short_ok _
theorem step_le (ls : List Ld) : (stepL ls).length ≤ ls.length := by
  have := short_le (ledA ls)
  rw [ledA_len] at this
  exact this
theorem step_twice {ls : List Ld} (ok : OkL ls) (h : (stepL ls).length = ls.length) : stepL (stepL ls) = stepL ls := by
  have e := (short_same (led_ok ok) (by rw [ledA_len]; exact h)).1
  have e2 : stepL ls = ledA ls := e
  rw [e2]
  show shortL (ledA (ledA ls)) = ledA ls
  rw [led_led]
  exact e
open Classical in
noncomputable def muL (ls : List Ld) : Nat := 2 * ls.length + if stepL ls = ls then 0 else 1
theorem mu_less {ls : List Ld} (ok : OkL ls) (h : stepL ls ≠ ls) : muL (stepL ls) < muL ls := by
  have := step_le ls
  unfold muL
  rw [if_neg h]
  by_cases c : (stepL ls).length = ls.length
  · rw [if_pos (step_twice ok c), c]
    omega
  · split <;> omega
theorem leanN_ok {ls : List Ld} (ok : OkL ls) : ∀ n, OkL (leanN ls n)
  | 0 => ok
  | n + 1 => step_ok _
theorem leanN_le (ls : List Ld) : ∀ n, (leanN ls n).length ≤ ls.length
  | 0 => Nat.le_refl _
  | n + 1 => Nat.le_trans (step_le _) (leanN_le ls n)
theorem leanN_still {ls : List Ld} {n : Nat} (h : stepL (leanN ls n) = leanN ls n) : ∀ m, leanN ls (n + m) = leanN ls n
  | 0 => rfl
  | m + 1 => by
    show stepL (leanN ls (n + m)) = _
    rw [leanN_still h m, h]
theorem leanN_mu {ls : List Ld} (ok : OkL ls) : ∀ n, muL (leanN ls n) + n ≤ muL ls ∨ ∃ m, m ≤ n ∧ stepL (leanN ls m) = leanN ls m
  | 0 => .inl (Nat.le_refl _)
  | n + 1 => by
    rcases leanN_mu ok n with h | ⟨m, h1, h2⟩
    · by_cases c : stepL (leanN ls n) = leanN ls n
      · exact .inr ⟨n, by omega, c⟩
      · have : muL (leanN ls (n + 1)) < muL (leanN ls n) := mu_less (leanN_ok ok n) c
        exact .inl (by omega)
    · exact .inr ⟨m, by omega, h2⟩
theorem lean_ends {ls : List Ld} (ok : OkL ls) : ∃ m, m ≤ 2 * ls.length + 2 ∧ stepL (leanN ls m) = leanN ls m := by
  rcases leanN_mu ok (2 * ls.length + 2) with h | h
  · have : muL ls ≤ 2 * ls.length + 1 := by
      unfold muL
      split <;> omega
    omega
  · exact h
/-- where it stays the same it is the lean one -/
theorem leanL_of {ls : List Ld} (ok : OkL ls) {n : Nat} (h : stepL (leanN ls n) = leanN ls n) : leanN ls n = leanL ls := by
  obtain ⟨m, h1, h2⟩ := lean_ends ok
  have e1 := leanN_still h2 (2 * ls.length + 2 - m)
  rw [Nat.add_sub_cancel' h1] at e1
  unfold leanL
  rw [e1]
  cases Nat.le_total n m with
  | inl c =>
    have := leanN_still h (m - n)
    rw [Nat.add_sub_cancel' c] at this
    exact this.symm
  | inr c =>
    have := leanN_still h2 (n - m)
    rw [Nat.add_sub_cancel' c] at this
    exact this
theorem lean_fix {ls : List Ld} (ok : OkL ls) : stepL (leanL ls) = leanL ls := by
  obtain ⟨m, h1, h2⟩ := lean_ends ok
  rw [← leanL_of ok h2]
  exact h2
theorem lean_ok {ls : List Ld} (ok : OkL ls) : OkL (leanL ls) := leanN_ok ok _
theorem lean_le (ls : List Ld) : (leanL ls).length ≤ ls.length := leanN_le ls _
theorem lean_lean {ls : List Ld} (ok : OkL ls) : leanL (leanL ls) = leanL ls := (leanL_of (lean_ok ok) (n := 0) (lean_fix ok)).symm
/-- a lean list: led on as it is, all come to, none idle -/
theorem fix_is {ls : List Ld} (ok : OkL ls) (h : stepL ls = ls) : ledA ls = ls ∧ ∀ k x, ls[k]? = some x → RchL ls k ∧ idleL k x = false := by
  have hs : (shortL (ledA ls)).length = (ledA ls).length := by
    rw [ledA_len]
    exact congrArg List.length h
  obtain ⟨e1, e2⟩ := short_same (led_ok ok) hs
  have e : ledA ls = ls := by rw [← e1]; exact h
  rw [e] at e2
  exact ⟨e, e2⟩
/-- what holds of the deeds of a list holds of its lean one's -/
theorem step_fst {P : De → Prop} {ls : List Ld} (h : ∀ x ∈ ls, P x.1) : ∀ x ∈ stepL ls, P x.1 := fun y hy => by
  unfold stepL shortL at hy
  obtain ⟨p, hp, rfl⟩ := List.mem_map.mp hy
  have hp := (List.of_mem_zip (List.mem_filter.mp hp).1).1
  obtain ⟨k, hk⟩ := List.getElem?_of_mem hp
  rw [ledA_at] at hk
  obtain ⟨x, hx, e⟩ := Option.map_eq_some_iff.mp hk
  have e1 : (movedL (behL (ledA ls)) p.1).1 = p.1.1 := by
    unfold movedL
    split <;> rfl
  rw [e1, ← e, led_fst]
  exact h x (List.mem_of_getElem? hx)
theorem leanN_fst {P : De → Prop} {ls : List Ld} (h : ∀ x ∈ ls, P x.1) : ∀ n, ∀ x ∈ leanN ls n, P x.1
  | 0 => h
  | n + 1 => step_fst (leanN_fst h n)
end Bm
/-! a list's layout: how wide each deed comes to be -/
namespace Bm
/-- where the k-th stands -/
def lay (sz : List Nat) (k : Nat) : Nat := (sz.take k).sum
/-- the k-th is narrow and its goal is out of reach -/
def farAt (gs : List (Option Nat)) (sz : List Nat) (k : Nat) : Bool := match gs[k]? with
  | some (some g) => decide (sz[k]? = some 1) && !decide (-16 ≤ (lay sz g : Int) - lay sz k - 1 ∧ (lay sz g : Int) - lay sz k - 1 ≤ 15)
  | _ => false
def wstep (gs : List (Option Nat)) (sz : List Nat) : List Nat := (List.range sz.length).map fun k => if farAt gs sz k = true then 2 else sz.getD k 1
def wN (gs : List (Option Nat)) : Nat → List Nat
  | 0 => List.replicate gs.length 1
  | n + 1 => wstep gs (wN gs n)
theorem wstep_len (gs : List (Option Nat)) (sz : List Nat) : (wstep gs sz).length = sz.length := by
  unfold wstep
  rw [List.length_map, List.length_range]
theorem wstep_at {gs : List (Option Nat)} {sz : List Nat} {k : Nat} (h : k < sz.length) : (wstep gs sz)[k]? = some (if farAt gs sz k = true then 2 else sz.getD k 1) := by
  unfold wstep
  rw [List.getElem?_map, List.getElem?_range h]
  rfl
theorem wN_len (gs : List (Option Nat)) : ∀ n, (wN gs n).length = gs.length
  | 0 => List.length_replicate
  | n + 1 => by
    show (wstep gs (wN gs n)).length = _
    rw [wstep_len, wN_len gs n]
/-- none is out of reach: nothing changes -/
theorem wstep_fix {gs : List (Option Nat)} {sz : List Nat} (h : ∀ k, farAt gs sz k = false) : wstep gs sz = sz := by
  refine List.ext_getElem? fun k => ?_
  by_cases c : k < sz.length
  · rw [wstep_at c, h k, List.getD_eq_getElem?_getD, List.getElem?_eq_getElem c]
    rfl
  · rw [List.getElem?_eq_none (by rw [wstep_len]; omega), List.getElem?_eq_none (by omega)]
def ones (l : List Nat) : Nat := l.countP fun x => decide (x = 1)
theorem far_one {gs : List (Option Nat)} {sz : List Nat} {k : Nat} (h : farAt gs sz k = true) : sz[k]? = some 1 := by
  unfold farAt at h
  split at h
  · simp only [Bool.and_eq_true, decide_eq_true_eq] at h
    exact h.1
  · cases h
theorem ones_le {f : Nat → Bool} : ∀ (l : List Nat) (i : Nat), ones ((List.range' i l.length).map fun k => if f k = true then 2 else l.getD (k - i) 1) ≤ ones l ∧ ((∃ k, i ≤ k ∧ k < i + l.length ∧ f k = true ∧ l[k - i]? = some 1) → ones ((List.range' i l.length).map fun k => if f k = true then 2 else l.getD (k - i) 1) < ones l)
  | [], i => ⟨Nat.le_refl _, fun ⟨k, h1, h2, _⟩ => absurd h2 (by simp; omega)⟩
  | x :: l, i => by
    have ih := ones_le (f := f) l (i + 1)
    have e : ((List.range' i (x :: l).length).map fun k => if f k = true then 2 else (x :: l).getD (k - i) 1) = (if f i = true then 2 else x) :: ((List.range' (i + 1) l.length).map fun k => if f k = true then 2 else l.getD (k - (i + 1)) 1) := by
      rw [List.length_cons, List.range'_succ, List.map_cons]
      congr 1
      · simp
      · refine List.map_congr_left fun k hk => ?_
        have := List.mem_range'_1.mp hk
        obtain ⟨j, rfl⟩ : ∃ j, k = i + 1 + j := ⟨k - (i + 1), by omega⟩
        rw [show i + 1 + j - i = j + 1 by omega, show i + 1 + j - (i + 1) = j by omega]
        rfl
    rw [e]
    unfold ones at ih ⊢
    rw [List.countP_cons, List.countP_cons]
    have hx : (if decide ((if f i = true then 2 else x) = 1) = true then 1 else 0) ≤ (if decide (x = 1) = true then 1 else 0 : Nat) := by
      by_cases c : f i = true
      · rw [if_pos c]; simp
      · rw [if_neg c]; exact Nat.le_refl _
    refine ⟨Nat.add_le_add ih.1 hx, ?_⟩
    rintro ⟨k, h1, h2, h3, h4⟩
    by_cases ck : k = i
    · rw [ck] at h3 h4
      rw [Nat.sub_self] at h4
      have hx1 : x = 1 := Option.some.inj h4
      have : (if decide ((if f i = true then 2 else x) = 1) = true then 1 else 0) < (if decide (x = 1) = true then 1 else 0 : Nat) := by
        rw [if_pos h3, hx1]
        decide
      have := ih.1
      omega
    · have := ih.2 ⟨k, by omega, by rw [List.length_cons] at h2; omega, h3, by
        obtain ⟨j, rfl⟩ : ∃ j, k = i + 1 + j := ⟨k - (i + 1), by omega⟩
        rw [show i + 1 + j - i = j + 1 by omega] at h4
        rw [show i + 1 + j - (i + 1) = j by omega]
        exact h4⟩
      omega
/-- while one is out of reach, the narrow ones grow fewer -/
theorem wstep_less {gs : List (Option Nat)} {sz : List Nat} {k : Nat} (h : farAt gs sz k = true) : ones (wstep gs sz) < ones sz := by
  have h1 := far_one h
  have hk := (List.getElem?_eq_some_iff.mp h1).1
  have := (ones_le (f := farAt gs sz) sz 0).2 ⟨k, Nat.zero_le _, by omega, h, by rw [Nat.sub_zero]; exact h1⟩
  unfold wstep
  rw [List.range_eq_range']
  simpa using this
theorem ones_start (gs : List (Option Nat)) : ones (wN gs 0) ≤ gs.length := by
  unfold ones
  exact Nat.le_trans List.countP_le_length (Nat.le_of_eq List.length_replicate)
theorem wN_still {gs : List (Option Nat)} {n : Nat} (h : ∀ k, farAt gs (wN gs n) k = false) : ∀ m, wN gs (n + m) = wN gs n
  | 0 => rfl
  | m + 1 => by
    show wstep gs (wN gs (n + m)) = _
    rw [wN_still h m, wstep_fix h]
theorem wN_ones (gs : List (Option Nat)) : ∀ n, ones (wN gs n) + n ≤ gs.length ∨ ∃ m, m ≤ n ∧ ∀ k, farAt gs (wN gs m) k = false
  | 0 => .inl (ones_start gs)
  | n + 1 => by
    rcases wN_ones gs n with h | ⟨m, h1, h2⟩
    · by_cases c : ∃ k, farAt gs (wN gs n) k = true
      · obtain ⟨k, hk⟩ := c
        have : ones (wN gs (n + 1)) < ones (wN gs n) := wstep_less hk
        exact .inl (by omega)
      · exact .inr ⟨n, Nat.le_succ n, fun k => by
          cases e : farAt gs (wN gs n) k with
          | false => rfl
          | true => exact absurd ⟨k, e⟩ c⟩
    · exact .inr ⟨m, Nat.le_succ_of_le h1, h2⟩
/-- the layout in the end -/
def wEnd (gs : List (Option Nat)) : List Nat := wN gs (gs.length + 1)
theorem wEnd_of {gs : List (Option Nat)} {n : Nat} (h : ∀ k, farAt gs (wN gs n) k = false) : wN gs n = wEnd gs := by
  rcases wN_ones gs (gs.length + 1) with h2 | ⟨m, h1, h2⟩
  · omega
  · have e1 := wN_still h2 (gs.length + 1 - m)
    rw [Nat.add_sub_cancel' h1] at e1
    unfold wEnd
    rw [e1]
    cases Nat.le_total n m with
    | inl c =>
      have := wN_still h (m - n)
      rw [Nat.add_sub_cancel' c] at this
      exact this.symm
    | inr c =>
      have := wN_still h2 (n - m)
      rw [Nat.add_sub_cancel' c] at this
      exact this
end Bm
set_option maxHeartbeats 800000
namespace Bm
open PySem PySem.Spec PyProof.Rows L2
def vNat (l : List Nat) : List V := l.map fun (n : Nat) => V.int (n : Int)
/-- where all stand, and the end -/
def spots (sz : List Nat) : List Nat := (List.range (sz.length + 1)).map (lay sz)
theorem lay_next {sz : List Nat} {k x : Nat} (h : sz[k]? = some x) : lay sz (k + 1) = lay sz k + x := by
  unfold lay
  rw [List.take_succ, h, List.sum_append]
  simp
theorem lay_le {sz : List Nat} (h : ∀ x ∈ sz, x ≤ 2) (k : Nat) : lay sz k ≤ 2 * sz.length := by
  unfold lay
  have : ∀ l : List Nat, (∀ x ∈ l, x ≤ 2) → l.sum ≤ 2 * l.length := fun l => by
    induction l with
    | nil => intro _; exact Nat.zero_le _
    | cons x l ih =>
      intro h
      have h1 := h x (List.mem_cons_self ..)
      have h2 := ih fun y hy => h y (List.mem_cons_of_mem _ hy)
      rw [List.sum_cons, List.length_cons]
      omega
  have h1 := this (sz.take k) fun x hx => h x (List.mem_of_mem_take hx)
  rw [List.length_take] at h1
  omega
section
variable {P : Program} {w : World} {K : PySem.W.Frag} {mg : Str → Option Value} {base : Heap} {f : Addr} {fd : FuncData} {dvs : List V}
def spSpots (K : PySem.W.Frag) : Sp := fun vs H Q _ => ∃ (a : Addr) (sz : List Nat), vs = [.ref a] ∧ SqL K H a (vNat sz) ∧ sz.length ≤ 1000 ∧ (∀ x ∈ sz, x ≤ 2) ∧ ∀ D H', Same H H' → H D = none → H' D = some (.lst (vNat (spots sz))) → Q (.ref D) H'
abbrev KnSpots (P : Program) (w : World) (K : PySem.W.Frag) (mg : Str → Option Value) (base : Heap) : Prop := Kn P w K mg base CX0 1 "starts_of" ["sizes"] [] (spSpots K)
end
end Bm
set_option maxHeartbeats 800000
namespace Bm
open PySem PySem.Spec PyProof.Rows L2
def De.goal : De → Option Int
  | .jump _ g _ => some g
  | .call g _ => some g
  | _ => none
theorem sg_not : ∀ k, k < 7 → inV (.str (nm SG k)) [.str "jump", .str "call"] = false := by decide +kernel
theorem sm_not : ∀ k, k < 8 → inV (.str (nm SM k)) [.str "jump", .str "call"] = false := by decide +kernel
theorem gn_plus : inV (.str "plus") [.str "jump", .str "call"] = false := by decide +kernel
theorem gn_set : inV (.str "set") [.str "jump", .str "call"] = false := by decide +kernel
theorem gn_high : inV (.str "high") [.str "jump", .str "call"] = false := by decide +kernel
theorem gn_load : inV (.str "load") [.str "jump", .str "call"] = false := by decide +kernel
theorem gn_store : inV (.str "store") [.str "jump", .str "call"] = false := by decide +kernel
theorem gn_jump : inV (.str "jump") [.str "jump", .str "call"] = true := by decide +kernel
theorem gn_call : inV (.str "call") [.str "jump", .str "call"] = true := by decide +kernel
theorem head_goes {d : De} (h : d.ok) : ∃ z r, d.vals = .str z :: r ∧ inV (.str z) [.str "jump", .str "call"] = d.goal.isSome := by
  cases d with
  | sgl k => exact ⟨_, _, rfl, sg_not k (Nat.lt_trans h (by decide))⟩
  | reg k a => exact ⟨_, _, rfl, sg_not k h.2.1⟩
  | sum k d a b => exact ⟨_, _, rfl, sm_not k h.1⟩
  | plus d a n => exact ⟨_, _, rfl, gn_plus⟩
  | set d n => exact ⟨_, _, rfl, gn_set⟩
  | high d n => exact ⟨_, _, rfl, gn_high⟩
  | load d a n => exact ⟨_, _, rfl, gn_load⟩
  | store d a n => exact ⟨_, _, rfl, gn_store⟩
  | jump k g f => exact ⟨_, _, rfl, gn_jump⟩
  | call g f => exact ⟨_, _, rfl, gn_call⟩
theorem iteT' {c : Bool} {A B : Prop} (h : c = true) (a : A) : if c = true then A else B := by rw [if_pos h]; exact a
theorem iteF' {c : Bool} {A B : Prop} (h : c = false) (b : B) : if c = true then A else B := by rw [h]; exact b
theorem hu_of {A : Around} {k : Nat} (hr : Room k A) : A.units + 1 < cLine := by
  have := hu65 hr
  omega
theorem vals_short (d : De) : d.vals.length ≤ 4 := by
  cases d <;> simp [De.vals]
/-- rows of tuples -/
inductive TupsV (K : PySem.W.Frag) (H : Hp) : List V → List (List V) → Prop
  | nil : TupsV K H [] []
  | cons {p : Addr} {l : List V} {vs : List V} {ls : List (List V)} : SqT K H p l → TupsV K H vs ls → TupsV K H (.ref p :: vs) (l :: ls)
theorem TupsV.map {K : PySem.W.Frag} {H H' : Hp} (f : ∀ a xs, SqT K H a xs → SqT K H' a xs) : ∀ {vs : List V} {ls : List (List V)}, TupsV K H vs ls → TupsV K H' vs ls
  | _, _, .nil => .nil
  | _, _, .cons h t => .cons (f _ _ h) (t.map f)
theorem TupsV.snoc {K : PySem.W.Frag} {H : Hp} {p : Addr} {l : List V} (h : SqT K H p l) : ∀ {vs : List V} {ls : List (List V)}, TupsV K H vs ls → TupsV K H (vs ++ [.ref p]) (ls ++ [l])
  | _, _, .nil => .cons h .nil
  | _, _, .cons a b => .cons a (TupsV.snoc h b)
theorem TupsV.len {K : PySem.W.Frag} {H : Hp} : ∀ {vs : List V} {ls : List (List V)}, TupsV K H vs ls → vs.length = ls.length
  | _, _, .nil => rfl
  | _, _, .cons _ t => congrArg Nat.succ t.len
/-- an item of a list of deeds: a deed, and the number that is its goal -/
def itemV (x : De × Nat) : List V := match x.1.goal with
  | none => x.1.vals
  | some _ => x.1.vals.take (x.1.vals.length - 2) ++ [.int (x.2 : Nat)]
theorem atI_neg {xs : List V} {k : Nat} {v : V} (hk : 0 < k) (hl : k ≤ xs.length) (h : xs[xs.length - k]? = some v) : atI xs (-(k : Int)) = some v := by
  have e : ixN xs.length (-(k : Int)) = some (xs.length - k) := by
    unfold ixN
    rw [if_neg (by omega), if_pos (by omega)]
    congr 1
    omega
  unfold atI
  rw [e]
  exact h
theorem TupsV.at_ {K : PySem.W.Frag} {H : Hp} : ∀ {vs : List V} {ls : List (List V)} {i : Nat} {l : List V}, TupsV K H vs ls → ls[i]? = some l → ∃ p, vs[i]? = some (.ref p) ∧ SqT K H p l
  | _, _, i, l, .nil, h => by simp at h
  | _, _, 0, l, .cons (p := p) h1 _, h => ⟨p, rfl, by rw [← Option.some.inj h]; exact h1⟩
  | _, _, i + 1, l, .cons _ h2, h => by
    obtain ⟨p, e, k⟩ := TupsV.at_ (i := i) h2 h
    exact ⟨p, e, k⟩
theorem item_head {x : De × Nat} (h : x.1.ok) : ∃ z r, itemV x = .str z :: r ∧ inV (.str z) [.str "jump", .str "call"] = x.1.goal.isSome := by
  obtain ⟨d, n⟩ := x
  cases d with
  | jump k g f => exact ⟨_, _, rfl, gn_jump⟩
  | call g f => exact ⟨_, _, rfl, gn_call⟩
  | _ => exact head_goes h
theorem item_last {x : De × Nat} {g : Int} (h : x.1.goal = some g) : atI (itemV x) (-1) = some (.int (x.2 : Nat)) := by
  obtain ⟨d, n⟩ := x
  cases d with
  | jump k g' f => rfl
  | call g' f => rfl
  | _ => cases h
theorem cut_m1 {xs : List V} (h : 1 ≤ xs.length) : cutV xs none (some (-1)) = xs.take (xs.length - 1) := by
  have e : HT.sIx xs.length xs.length (some (-1)) = xs.length - 1 := by
    show (if (-1 : Int) < 0 then (-1 + (xs.length : Int)).toNat else min (-1 : Int).toNat xs.length) = _
    rw [if_pos (by decide)]
    omega
  unfold cutV
  rw [e]
  rfl
theorem item_new {x : De × Nat} {g a : Int} {b : Bool} (hx : x.1.ok) (h : x.1.goal = some g) (ha : 0 ≤ a ∧ a ≤ 65535) : ∃ (d : De) (_ : d.ok), cutV (itemV x) none (some (-1)) = (itemV x).take ((itemV x).length - 1) ∧ d.vals = (itemV x).take ((itemV x).length - 1) ++ [.int a, .bl b] := by
  obtain ⟨d, n⟩ := x
  cases d with
  | jump k g' f => exact ⟨.jump k a b, ⟨hx.1, ha.1, ha.2⟩, cut_m1 (by show 1 ≤ 3; decide), rfl⟩
  | call g' f => exact ⟨.call a b, ⟨ha.1, ha.2⟩, cut_m1 (by show 1 ≤ 2; decide), rfl⟩
  | _ => cases h
theorem rcat {K : PySem.W.Frag} {H : Hp} {a b : Addr} {xs ys : List V} {Q : VK} (h1 : SqT K H a xs) (h2 : SqT K H b ys) (hl : xs.length + ys.length ≤ 100000) (q : ∀ p H', Same H H' → SqT K H' p (xs ++ ys) → Q (.ref p) H') : rCatA K (.ref a) (.ref b) H Q :=
  ⟨_, _, _, _, rfl, rfl, h1, h2, line5 hl, fun e => by subst e; exact q _ _ (Same.refl _) h2, fun _ e => by subst e; exact q _ _ (Same.refl _) (by rw [List.append_nil]; exact h1), fun _ _ p hp => q p _ (Same.add hp) (SqT.of upd_same)⟩
theorem cut_whole {xs : List V} {lo hi : Option Int} (h : HT.sIx xs.length 0 lo = 0 ∧ HT.sIx xs.length xs.length hi = xs.length) : cutV xs lo hi = xs := by
  unfold cutV
  rw [h.1, h.2]
  show xs.take (xs.length - 0) = xs
  rw [Nat.sub_zero, List.take_length]
theorem rsl {K : PySem.W.Frag} {H : Hp} {a : Addr} {xs : List V} {lo hi : Option Int} {Q : VK} (h : SqT K H a xs) (q : ∀ p H', Same H H' → SqT K H' p (cutV xs lo hi) → Q (.ref p) H') : rSlA K (.ref a) lo hi H Q :=
  ⟨_, _, rfl, h, fun e => q _ _ (Same.refl _) (by rw [cut_whole e]; exact h), fun _ p hp => q p _ (Same.add hp) (SqT.of upd_same)⟩
theorem cut_one {xs : List V} {k : Nat} : cutV xs (some (k : Int)) (some ((k : Int) + 1)) = (xs.drop k).take 1 := by
  have e : ((k : Int) + 1) = ((k + 1 : Nat) : Int) := by omega
  unfold cutV
  rw [e, HT.sIx_nat, HT.sIx_nat]
  by_cases h : k < xs.length
  · rw [Nat.min_eq_left (Nat.le_of_lt h), Nat.min_eq_left h]
    congr 1
    omega
  · have h1 : xs.length ≤ k := by omega
    rw [Nat.min_eq_right h1, Nat.min_eq_right (by omega), List.drop_of_length_le (Nat.le_refl _), List.drop_of_length_le h1]
    simp
theorem small_log {j : Nat} (h : j ≤ 100000) : ((j : Nat) : Int).natAbs.log2 < 1920 := by
  rw [Int.natAbs_natCast]
  have h1 : j.log2 ≤ j := Nat.log2_le_self j
  cases Nat.eq_zero_or_pos j with
  | inl e => rw [e]; decide
  | inr e =>
    have h2 : 2 ^ j.log2 ≤ j := Nat.log2_self_le (by omega)
    cases Nat.lt_or_ge j.log2 17 with
    | inl q => omega
    | inr q =>
      have h3 : 2 ^ 17 ≤ 2 ^ j.log2 := Nat.pow_le_pow_right (by decide) q
      omega
/-! checked_image -/
end Bm
set_option maxHeartbeats 800000
namespace Bm
open PySem PySem.Spec PyProof.Rows L2
def datV : V → PyData
  | .int i => .int i
  | .bl b => .bool b
  | .str x => .str x
  | _ => .tuple []
theorem OkV.dp {K : PySem.W.Frag} {H : Hp} {v : V} (h : OkV K H v) : Dp K H v (datV v) := by
  cases h with
  | int i => exact .int i
  | bl b => exact .bl b
  | str x => exact .str x
  | unit h => exact .tup h .nil
theorem okAll_dp {K : PySem.W.Frag} {H : Hp} : ∀ {l : List V}, (∀ x ∈ l, OkV K H x) → DpAll K H l (l.map datV)
  | [], _ => .nil
  | x :: l, h => .cons (h x (List.mem_cons_self ..)).dp (okAll_dp fun y hy => h y (List.mem_cons_of_mem _ hy))
def GdV : V → Bool
  | .str x => PyData.strOk x
  | _ => true
theorem dat_shaped : ∀ v : V, GdV v = true → (datV v).canLay0 = true ∧ (datV v).depth ≤ 1 := fun v h => by
  cases v with
  | str x => exact ⟨h, by simp [datV, PyData.depth]⟩
  | _ => simp [datV, PyData.canLay0, PyData.canLayAll0, PyData.depth, PyData.depthAll]
theorem dat_all : ∀ l : List V, (∀ x ∈ l, GdV x = true) → PyData.canLayAll0 (l.map datV) = true ∧ PyData.depthAll (l.map datV) ≤ 1
  | [], _ => by simp [PyData.canLayAll0, PyData.depthAll]
  | x :: l, h => by
    obtain ⟨h1, h2⟩ := dat_all l fun y hy => h y (List.mem_cons_of_mem _ hy)
    obtain ⟨h3, h4⟩ := dat_shaped x (h x (List.mem_cons_self ..))
    simp only [List.map_cons, PyData.canLayAll0, PyData.depthAll, h1, h3]
    exact ⟨rfl, Nat.max_le.mpr ⟨h4, h2⟩⟩
theorem eqv_nil (l : List V) : PyData.eqv (.tuple (l.map datV)) (.tuple []) = decide (l = []) := by
  cases l <;> simp [PyData.eqv, PyData.eqvAll]
theorem tup_shapedG {l : List V} (h : ∀ x ∈ l, GdV x = true) : SeqAt.shaped (.tuple (l.map datV)) = true := by
  obtain ⟨h1, h2⟩ := dat_all l h
  unfold SeqAt.shaped
  simp only [PyData.canLay0, PyData.depth, h1, Bool.true_and]
  exact decide_eq_true (by omega)
/-- a flat value as data -/
def toD : V → PyData
  | .int i => .int i
  | .str s => .str s
  | .bl b => .bool b
  | _ => .none
def plainV : V → Bool
  | .int _ => true
  | .str _ => true
  | .bl _ => true
  | _ => false
theorem dp_plain {K : PySem.W.Frag} {H : Hp} : ∀ {l : List V}, l.all plainV = true → DpAll K H l (l.map toD)
  | [], _ => .nil
  | v :: l, h => by
    rw [List.all_cons, Bool.and_eq_true] at h
    refine .cons ?_ (dp_plain h.2)
    cases v with
    | int i => exact .int i
    | str s => exact .str s
    | bl b => exact .bl b
    | _ => exact absurd h.1 (by simp [plainV])
def rowsD (ls : List (List V)) : PyData := .list (ls.map fun l => .tuple (l.map toD))
theorem TupsV.dp {K : PySem.W.Frag} {H : Hp} : ∀ {vs : List V} {ls : List (List V)}, TupsV K H vs ls → (∀ l ∈ ls, l.all plainV = true) → DpAll K H vs (ls.map fun l => .tuple (l.map toD))
  | _, _, .nil, _ => .nil
  | _, _, .cons (l := l) h t, hp => .cons (.tup h (dp_plain (hp l (List.mem_cons_self ..)))) (t.dp fun x hx => hp x (List.mem_cons_of_mem _ hx))
theorem toD_depth (v : V) : (toD v).depth = 0 := by cases v <;> rfl
theorem all_depth0 : ∀ l : List V, PyData.depthAll (l.map toD) = 0
  | [] => rfl
  | v :: l => by
    rw [List.map_cons]
    simp only [PyData.depthAll, toD_depth, all_depth0 l]
    rfl
theorem rows_depth (ls : List (List V)) : (rowsD ls).depth < 3 := by
  have h : PyData.depthAll (ls.map fun l => PyData.tuple (l.map toD)) ≤ 1 := by
    induction ls with
    | nil => exact Nat.zero_le _
    | cons l ls ih =>
      rw [List.map_cons]
      simp only [PyData.depthAll, PyData.depth, all_depth0]
      exact Nat.max_le.mpr ⟨Nat.le_refl _, ih⟩
  unfold rowsD
  simp only [PyData.depth]
  omega
theorem toD_small (v : V) : smallD (toD v) := by cases v <;> simp [toD, smallD]
theorem all_small : ∀ l : List V, smallA (l.map toD)
  | [] => by simp only [List.map_nil, smallA]
  | v :: l => by
    rw [List.map_cons]
    simp only [smallA]
    exact ⟨toD_small v, all_small l⟩
theorem rows_small {ls : List (List V)} (h : ls.length ≤ 100000) (h4 : ∀ l ∈ ls, l.length ≤ 4) : smallD (rowsD ls) := by
  have h2 : smallA (ls.map fun l => PyData.tuple (l.map toD)) := by
    clear h
    induction ls with
    | nil => simp only [List.map_nil, smallA]
    | cons l ls ih =>
      rw [List.map_cons]
      simp only [smallA, smallD]
      have := h4 l (List.mem_cons_self ..)
      exact ⟨⟨by rw [List.length_map]; omega, all_small l⟩, ih fun x hx => h4 x (List.mem_cons_of_mem _ hx)⟩
  unfold rowsD
  simp only [smallD]
  exact ⟨by rw [List.length_map]; exact h, h2⟩
/-- numbers and texts alone -/
def numS : V → Bool
  | .int _ => true
  | .str s => PyData.strOk s
  | _ => false
theorem numS_plain {v : V} (h : numS v = true) : plainV v = true := by
  cases v <;> first | rfl | cases h
theorem numS_plains {l : List V} (h : l.all numS = true) : l.all plainV = true :=
  List.all_eq_true.mpr fun v hv => numS_plain (List.all_eq_true.mp h v hv)
theorem numS_eqv {a b : V} (ha : numS a = true) (hb : numS b = true) : PyData.eqv (toD a) (toD b) = decide (a = b) := by
  cases a with
  | int i =>
    cases b with
    | int j =>
      simp [toD, PyData.eqv]
      rfl
    | str s => simp [toD, PyData.eqv]
    | _ => cases hb
  | str s =>
    cases b with
    | int j => simp [toD, PyData.eqv]
    | str t =>
      simp [toD, PyData.eqv]
      rfl
    | _ => cases hb
  | _ => cases ha
theorem numS_eqvA : ∀ {a b : List V}, a.all numS = true → b.all numS = true → PyData.eqvAll (a.map toD) (b.map toD) = decide (a = b)
  | [], [], _, _ => by simp [PyData.eqvAll]
  | [], _ :: _, _, _ => by simp [PyData.eqvAll]
  | _ :: _, [], _, _ => by simp [PyData.eqvAll]
  | x :: a, y :: b, ha, hb => by
    rw [List.all_cons, Bool.and_eq_true] at ha hb
    simp only [List.map_cons, PyData.eqvAll, numS_eqv ha.1 hb.1, numS_eqvA ha.2 hb.2]
    by_cases h : x = y
    · subst h
      simp
    · simp [h]
theorem tup_eqv {a b : List V} (ha : a.all numS = true) (hb : b.all numS = true) : PyData.eqv (.tuple (a.map toD)) (.tuple (b.map toD)) = decide (a = b) := by
  rw [← numS_eqvA ha hb]
  simp [PyData.eqv]
theorem rows_eqvA : ∀ {a b : List (List V)}, (∀ l ∈ a, l.all numS = true) → (∀ l ∈ b, l.all numS = true) → PyData.eqvAll (a.map fun l => .tuple (l.map toD)) (b.map fun l => .tuple (l.map toD)) = decide (a = b)
  | [], [], _, _ => by simp [PyData.eqvAll]
  | [], _ :: _, _, _ => by simp [PyData.eqvAll]
  | _ :: _, [], _, _ => by simp [PyData.eqvAll]
  | x :: a, y :: b, ha, hb => by
    have h1 := tup_eqv (ha x (List.mem_cons_self ..)) (hb y (List.mem_cons_self ..))
    have h2 := rows_eqvA (a := a) (b := b) (fun l hl => ha l (List.mem_cons_of_mem _ hl)) (fun l hl => hb l (List.mem_cons_of_mem _ hl))
    simp only [List.map_cons, PyData.eqvAll, h1, h2]
    by_cases h : x = y
    · subst h
      simp
    · simp [h]
theorem rows_eqv {a b : List (List V)} (ha : ∀ l ∈ a, l.all numS = true) (hb : ∀ l ∈ b, l.all numS = true) : PyData.eqv (rowsD a) (rowsD b) = decide (a = b) := by
  rw [← rows_eqvA ha hb]
  unfold rowsD
  simp [PyData.eqv]
theorem plain_lay : ∀ {l : List V}, l.all numS = true → PyData.canLayAll0 (l.map toD) = true
  | [], _ => by simp [PyData.canLayAll0]
  | x :: l, h => by
    rw [List.all_cons, Bool.and_eq_true] at h
    have e : (toD x).canLay0 = true := by
      cases x with
      | int i => simp [toD, PyData.canLay0]
      | str s =>
        have : PyData.strOk s = true := h.1
        simp [toD, PyData.canLay0, this]
      | _ => cases h.1
    simp [PyData.canLayAll0, plain_lay h.2, e]
theorem tup_shaped {l : List V} (h : l.all numS = true) : SeqAt.shaped (.tuple (l.map toD)) = true := by
  unfold SeqAt.shaped
  simp only [PyData.canLay0, PyData.depth, plain_lay h, all_depth0, Bool.true_and]
  decide
theorem rows_lay : ∀ {ls : List (List V)}, (∀ l ∈ ls, l.all numS = true) → PyData.canLayAll0 (ls.map fun l => .tuple (l.map toD)) = true
  | [], _ => by simp [PyData.canLayAll0]
  | x :: l, h => by
    have h1 := plain_lay (h x (List.mem_cons_self ..))
    have h2 := rows_lay (ls := l) fun y hy => h y (List.mem_cons_of_mem _ hy)
    simp [PyData.canLayAll0, PyData.canLay0, h1, h2]
theorem rows_shaped {ls : List (List V)} (h : ∀ l ∈ ls, l.all numS = true) : SeqAt.shaped (rowsD ls) = true := by
  have hd := rows_depth ls
  unfold SeqAt.shaped
  rw [decide_eq_true (by omega), Bool.and_true]
  unfold rowsD
  simp only [PyData.canLay0, rows_lay h]
theorem sg_sok : ∀ k, k < 7 → PyData.strOk (nm SG k) = true := by decide +kernel
theorem sm_sok : ∀ k, k < 8 → PyData.strOk (nm SM k) = true := by decide +kernel
theorem tm_sok : ∀ k, k < 7 → PyData.strOk (nm TM k) = true := by decide +kernel
theorem item_numS {x : De × Nat} (h : x.1.ok) : (itemV x).all numS = true := by
  obtain ⟨d, n⟩ := x
  have one : ∀ (s : Str) (l : List V), PyData.strOk s = true → l.all numS = true → (V.str s :: l).all numS = true := fun s l h1 h2 => by
    rw [List.all_cons, h2, Bool.and_true]
    exact h1
  cases d with
  | sgl k => exact one _ _ (sg_sok k (Nat.lt_trans h (by decide))) rfl
  | reg k a => exact one _ _ (sg_sok k h.2.1) rfl
  | sum k d a b => exact one _ _ (sm_sok k h.1) rfl
  | jump k g f => exact one _ _ (by decide +kernel) (one _ _ (tm_sok k h.1) rfl)
  | _ => exact one _ _ (by decide +kernel) rfl
end Bm
set_option maxHeartbeats 1000000
/-! enumerate of a tuple -/
namespace Bm
open PySem PySem.Spec PyProof.Rows L2
abbrev enH (g : Heap) (u : Obj) : Heap := (g.push u).push { cls := .type "enumerate", data := .fields #[.none, .bool false, .ref g.objs.size, rawInt 0, .none, .none] }
theorem meets_enum1 {v : Value} {u : Obj} {G : Heap → Prop} (B : Begins v u G) :
    Meets (Builtin.«enumerate.__new__» ⟨[.type "enumerate", v], []⟩) (fun _ R s => G s.heap ∧ R (.ok (.ret (.ref (s.heap.push u).objs.size))) { s with heap := enH s.heap u }) :=
  .of_wp fun P W A R s w => by
    obtain ⟨hp, gs, dr, tk, os⟩ := s
    obtain ⟨b1, w⟩ := w
    have sub_ := sub_enumerate
    have nx : ∀ {A2 : Around} {E2 : Value → Shared → Prop} {Q2 : Value → Shared → Prop}, Q2 (.ref hp.objs.size) ⟨hp.push u, gs, dr, tk, os⟩ → wpAny (model P W) A2 (pyIter v) Q2 E2 ⟨hp, gs, dr, tk, os⟩ :=
      fun z => B.iter P W _ _ ⟨hp, gs, dr, tk, os⟩ _ b1 z
    wp_walk using nx
    refine wpAny_stack_any fun st => wpAny_pure ?_
    split
    · rename_i c _ _ _ _ _
      cases (c == Value.type "enumerate") <;> (wp_walk using nx; exact ⟨_, rfl, w⟩)
    · wp_walk using nx
      exact ⟨_, rfl, w⟩
theorem call_enum1 {P : Program} {W : World} {A : Around} {E : Value → Shared → Prop} {s : Shared} {v : Value} {u : Obj} {G : Heap → Prop} {Q : Value → Shared → Prop} (B : Begins v u G) (b1 : G s.heap)
    (w : ∀ g, IsEnum g (s.heap.objs.size + 1) s.heap.objs.size 0 .none → g.get? s.heap.objs.size = some u → g.objs.size = s.heap.objs.size + 2 → (∀ b o, s.heap.get? b = some o → g.get? b = some o) → Q (.ref (s.heap.objs.size + 1)) { s with heap := g }) :
    wpAny (model P W) A (call (.type "enumerate") [v]) Q E s := by
  refine callType_new F.called_enumerate (by decide) (F.typeCall_enumerate_1 _) (F.newCall_enumerate_1 _) (fun o => F.args_object_init_2 o _) F.entry_enumerate_new (meets_enum1 B) ⟨b1, ?_⟩
  have z1 : (s.heap.push u).objs.size = s.heap.objs.size + 1 := Heap.size_push ..
  have e1 : (enH s.heap u).get? (s.heap.push u).objs.size = some _ := Heap.get?_push_size _ rfl
  show _ ∧ _
  rw [z1] at e1 ⊢
  exact ⟨⟨_, e1, rfl⟩, w _ e1 (Heap.get?_push_of_some _ (Heap.get?_push_size _ B.free)) (by rw [Heap.size_push, z1]) fun b o m => Heap.get?_push_of_some _ (Heap.get?_push_of_some _ m)⟩
def IteT (K : PySem.W.Frag) (l : Addr) : It :=
  ⟨fun n H => ∃ (ls : List V) (p : V), SqT K H l ls ∧ ls[n]? = some p,
    fun n H v H2 => ∃ T p, v = .ref T ∧ H T = none ∧ H2 = upd H T (.tup [.int (n : Nat), p]) ∧ ∀ ls, SqT K H l ls → ls[n]? = some p,
    fun n H => ∃ ls : List V, SqT K H l ls ∧ ls.length = n⟩
theorem two_of {e j c : Addr} (w : c ∈ [e, j]) : c = e ∨ c = j := by simpa using w
theorem turnEnT {P : Program} {W : World} {K : PySem.W.Frag} {es : List Expr} {n0 : Nat} {tp : Pos} {l e j : Addr} (lj : l ≠ j) (el : e ≠ l) (ej : e ≠ j) :
    Turn P W K (.Tuple es n0 tp) (IteT K l) [e, j] e (fun n g => (∃ old, IsEnum g e j ((n : Nat) : Int) old) ∧ g.IsTupleIter j l n) where
  mem := List.mem_cons_self ..
  obj := fun n g st c w => by
    obtain ⟨⟨old, ge⟩, ⟨u1, f1, _, d1⟩⟩ := st
    rcases two_of w with m | m <;> subst m
    · exact ⟨_, ge, fun v z => nomatch z⟩
    · exact ⟨u1, f1, fun v z => by rw [d1] at z; cases z⟩
  keep := fun n g g' st k => by
    obtain ⟨⟨old, ge⟩, t1⟩ := st
    exact ⟨⟨old, k e (by simp) _ ge⟩, t1.at fun u z => k j (by simp) u z⟩
  item := by
    intro X eP eW eK hc n pins s σ H E I hf st hg
    subst eP eW eK
    obtain ⟨⟨old, ge⟩, t1⟩ := st
    obtain ⟨ls, p, sl, ep⟩ := hg
    obtain ⟨its, rv, pt, _⟩ := I.tuple sl
    obtain ⟨u, hu, ru⟩ := rv.get ep
    have nu : n < its.toArray.size := by simpa using (List.getElem?_eq_some_iff.mp hu).1
    have le : e < s.heap.objs.size := Heap.lt_size ge
    have lj2 : j < s.heap.objs.size := by obtain ⟨_, m, _⟩ := t1; exact Heap.lt_size m
    have D1 := Draws.tuple (prog := X.prog) (w := X.w) (A := X.A.in1) (I.ok.hd hc) j l lj its.toArray
    have ef : e ∉ [j, l] := fun w => by rcases List.mem_cons.mp w with m | w; exact ej m; exact el (List.mem_singleton.mp w)
    refine wpAny_pyNext_enum_itemC D1 ge ⟨t1, pt⟩ nu ej ef fun x g1 tk y1 go st1 hT hsz hk => ?_
    have e1 : x = u := by
      have y1' : its.toArray[n]? = some x := y1
      have hu' : its.toArray[n]? = some u := by simpa using hu
      exact Option.some.inj (y1'.symm.trans hu')
    subst e1
    refine ⟨_, rfl, wpAny_letOwnedTupleGo_enum (s := { s with heap := g1, toks := tk + 1 }) go fun g2 he2 sb => ?_⟩
    have hT2 : g2.get? s.heap.objs.size = some { cls := .type "tuple", data := .seq #[.int n tk, x] } := (sb.2 _ (Nat.ne_of_gt le)).trans hT
    have far : ∀ c, c ∉ [e, j] → ∀ o, s.heap.get? c = some o → g2.get? c = some o := fun c w o m => (sb.2 c fun z => w (by simp [z])).trans (hk c o (fun z => w (by simp [z])) (fun z => w (by simp [z])) m)
    have fresh : ObjOk X.prog X.w (upd H s.heap.objs.size (.tup [.int (n : Nat), p])) g2 s.heap.objs.size (.tup [.int (n : Nat), p]) :=
      ⟨Nat.le_trans (by decide : 2 ≤ 100000) (by decide), [.int n tk, x], .cons ⟨_, rfl⟩ (.cons ru .nil), ⟨_, hT2, rfl, _, rfl⟩⟩
    have I2 : Inv X pins σ (upd H s.heap.objs.size (.tup [.int (n : Nat), p])) { s with heap := g2, toks := tk + 1 } :=
      I.turnedNew (t' := tk + 1) (ch := [e, j]) (fun c o w m => far c w o m) hf (Nat.le_refl _) fresh
    refine ⟨.ref s.heap.objs.size, _, I2, rfl, ⟨_, p, rfl, I.hok.fresh (Nat.le_refl _), rfl, fun m hm => by rw [I.tuple_inj hm sl]; exact ep⟩, ⟨⟨x, ?_⟩, st1.1.at fun o m => (sb.2 _ (Ne.symm ej)).trans m⟩, fun c w => ?_⟩
    · have q1 : ((n + 1 : Nat) : Int) = (n : Int) + 1 := by omega
      rw [q1]
      exact he2
    · have lt : c < s.heap.objs.size := by
        rcases two_of w with m | m <;> rw [m]
        · exact le
        · exact lj2
      rw [upd_ne (Nat.ne_of_lt lt)]
      exact (hf c w).1
  done := by
    intro X eP eW eK hc n pins s σ H E I hf st hg
    subst eP eW eK
    obtain ⟨⟨old, ge⟩, t1⟩ := st
    obtain ⟨ls, sl, nl⟩ := hg
    obtain ⟨its, rv, pt, _⟩ := I.tuple sl
    have m1 : its.toArray.size = n := by
      have := rv.length
      simp
      omega
    have D1 := Draws.tuple (prog := X.prog) (w := X.w) (A := X.A.in1) (I.ok.hd hc) j l lj its.toArray
    obtain ⟨f0, f1, f2, f3, f4, f5⟩ := hf j (by simp)
    refine wpAny_pyNext_enum_endD D1 ge (by rw [m1]; exact ⟨t1, pt⟩) fun g1 eb => ⟨rfl, ?_⟩
    exact I.turned (t' := s.toks) (fun b o w m => eb b o w m) f0 f1 f3 f4 f5
  self := fun A n s Q E st q => by
    obtain ⟨⟨old, ge⟩, _⟩ := st
    exact wpAny_pyIter_enum ge q
def iEnumA (K : PySem.W.Frag) (ta : TA) : TI := fun σ H R => ta σ H fun vs H1 => ∃ l ls, vs = [.ref l] ∧ ((SqL K H1 l ls ∧ R (Ite K l) H1) ∨ (SqT K H1 l ls ∧ R (IteT K l) H1))
theorem pi_enumA {X : Cx} {e : Expr} {ta : TA} {p pos tp : Pos} {es : List Expr} {n0 : Nat} (hg : Gl X "enumerate") (hm : X.mg "enumerate" = none) (ha : PA X [e] ta) (hs : starEach [e] X.env = [(false, eval e X.env)] := by rfl) :
    PI X (.Tuple es n0 tp) (.Call (.Name "enumerate" p) [e] [] pos) (iEnumA X.K ta) := by
  refine ⟨fun pins s σ H R I w => ?_⟩
  refine Call_ (ld_blt I hg hm boot_enumerate (PyProof.Rows.callWith_type1 (thn (ha.run pos pins s σ H _ I w) fun us s1 ⟨vs, H1, I1, r1, q1⟩ => ?_) hs rfl))
  obtain ⟨l, ls, rfl, q⟩ := q1
  cases r1 with
  | cons c1 r1 =>
    cases r1
    cases c1
    have fresh : ∀ c, c ∈ [s1.heap.objs.size + 1, s1.heap.objs.size] → FpOk X pins H1 c := fun c w => by
      have le : s1.heap.objs.size ≤ c := by
        rcases two_of w with m | m <;> rw [m] <;> first | exact Nat.le_refl _ | exact Nat.le_add_right _ _
      exact I1.fpOk le (I1.hok.fresh le)
    rcases q with ⟨sl, q⟩ | ⟨sl, q⟩
    · obtain ⟨its, rv, pl, _⟩ := I1.list sl
      refine call_enumerate_list pl.isList fun g he hit _ hk => wpAny_pyIter_enum he ?_
      have I2 : Inv X pins σ H1 { s1 with heap := g } := I1.kept (t' := s1.toks) hk
      exact ⟨s1.heap.objs.size + 1, [s1.heap.objs.size + 1, s1.heap.objs.size], _, _, H1, rfl, I2, turn_enum l (s1.heap.objs.size + 1) s1.heap.objs.size, ⟨⟨.none, he⟩, hit, Nat.succ_ne_self _⟩, fresh, q⟩
    · obtain ⟨its, rv, pt, _⟩ := I1.tuple sl
      obtain ⟨o1, f1, _⟩ := id pt
      have ll := Heap.lt_size f1
      refine call_enum1 (begins_tuple l its.toArray) pt fun g he b1 _ hk => wpAny_pyIter_enum he ?_
      have I2 : Inv X pins σ H1 { s1 with heap := g } := I1.kept (t' := s1.toks) hk
      exact ⟨s1.heap.objs.size + 1, [s1.heap.objs.size + 1, s1.heap.objs.size], _, _, H1, rfl, I2, turnEnT (Nat.ne_of_lt ll) (Nat.ne_of_gt (Nat.lt_succ_of_lt ll)) (Nat.succ_ne_self _), ⟨⟨.none, he⟩, ⟨_, b1, rfl, rfl⟩⟩, fresh, q⟩
theorem walk_enumT {K : PySem.W.Frag} {l : Addr} {xs : List V} : Walk (IteT K l) xs.length (fun H => SqT K H l xs) (YPair (fun i => some (.int (i : Nat))) (fun i => xs[i]?)) := by
  refine ⟨fun i _ hi q => ⟨xs, xs[i], q, by simp [hi]⟩, fun _ q => ⟨xs, q, rfl⟩, fun i H v H2 _ q y => ?_⟩
  obtain ⟨T, x, e1, e2, e3, e4⟩ := y
  exact ⟨T, .int (i : Nat), x, e1, e2, e3, rfl, e4 xs q⟩
end Bm
set_option maxHeartbeats 800000
namespace Bm
open PySem PySem.Spec PyProof.Rows L2
def goV : Option Nat → V
  | none => .non
  | some g => .int (g : Int)
theorem wN_two (gs : List (Option Nat)) : ∀ n, ∀ x ∈ wN gs n, x = 1 ∨ x = 2
  | 0, x, hx => .inl (List.mem_replicate.mp hx).2
  | n + 1, x, hx => by
    have hx : x ∈ wstep gs (wN gs n) := hx
    unfold wstep at hx
    obtain ⟨k, hk, rfl⟩ := List.mem_map.mp hx
    have hk := List.mem_range.mp hk
    by_cases c : farAt gs (wN gs n) k = true
    · rw [if_pos c]; exact .inr rfl
    · rw [if_neg c, List.getD_eq_getElem?_getD, List.getElem?_eq_getElem hk]
      exact wN_two gs n _ (List.getElem_mem hk)
def onesV (v : V) : Bool := match v with
  | .int i => decide (i = 1)
  | _ => false
/-- how many of a list are one -/
def onesAt (G : Hp) (W : Addr) : Nat := match G W with
  | some (.lst l) => l.countP onesV
  | _ => 0
theorem onesAt_is {G : Hp} {W : Addr} {sz : List Nat} (h : G W = some (.lst (vNat sz))) : onesAt G W = ones sz := by
  unfold onesAt ones
  rw [h]
  show (vNat sz).countP onesV = _
  unfold vNat
  rw [List.countP_map]
  refine List.countP_congr fun x _ => ?_
  show (decide ((x : Int) = 1)) = true ↔ _
  rw [decide_eq_true_eq, decide_eq_true_eq]
  omega
theorem sets_len : ∀ (l : List Nat) (s : List Nat), (l.foldl (fun s k => s.set k 2) s).length = s.length
  | [], _ => rfl
  | k :: l, s => by rw [List.foldl_cons, sets_len l, List.length_set]
theorem sets_at : ∀ (l : List Nat) (s : List Nat) (k : Nat), k < s.length → (l.foldl (fun s k => s.set k 2) s)[k]? = if k ∈ l then some 2 else s[k]?
  | [], s, k, _ => by simp
  | x :: l, s, k, hk => by
    rw [List.foldl_cons, sets_at l _ k (by rw [List.length_set]; exact hk)]
    by_cases c : k ∈ l
    · rw [if_pos c, if_pos (List.mem_cons_of_mem _ c)]
    · rw [if_neg c]
      by_cases e : k = x
      · rw [if_pos (by rw [e]; exact List.mem_cons_self ..), e, List.getElem?_set_self (by rw [← e]; exact hk)]
      · rw [if_neg (fun z => (List.mem_cons.mp z).elim e c), List.getElem?_set_ne (fun z => e z.symm)]
theorem sets_step {gs : List (Option Nat)} {sz fl : List Nat} (h : ∀ k, k ∈ fl ↔ farAt gs sz k = true) : fl.foldl (fun s k => s.set k 2) sz = wstep gs sz := by
  refine List.ext_getElem? fun k => ?_
  by_cases c : k < sz.length
  · rw [sets_at _ _ _ c, wstep_at c]
    by_cases d : farAt gs sz k = true
    · rw [if_pos ((h k).mpr d), if_pos d]
    · rw [if_neg (fun z => d ((h k).mp z)), if_neg d, List.getD_eq_getElem?_getD, List.getElem?_eq_getElem c]
      rfl
  · rw [List.getElem?_eq_none (by rw [sets_len]; omega), List.getElem?_eq_none (by rw [wstep_len]; omega)]
theorem ixN_of {n k : Nat} (h : k < n) : ixN n ((k : Nat) : Int) = some k := by
  unfold ixN
  simp
  omega
section
variable {P : Program} {w : World} {K : PySem.W.Frag} {mg : Str → Option Value} {base : Heap} {f : Addr} {fd : FuncData} {dvs : List V}
/-- of all narrow: the layout in the end -/
def spWide (K : PySem.W.Frag) : Sp := fun vs H Q _ => ∃ (a b : Addr) (gs : List (Option Nat)), vs = [.ref a, .ref b] ∧ SqL K H a (vNat (List.replicate gs.length 1)) ∧ SqL K H b (gs.map goV) ∧ gs.length ≤ 1000 ∧ (∀ g, some g ∈ gs → g ≤ gs.length) ∧ ∀ D H', Same H H' → H D = none → H' D = some (.lst (vNat (wEnd gs))) → Q (.ref D) H'
abbrev KnWide (P : Program) (w : World) (K : PySem.W.Frag) (mg : Str → Option Value) (base : Heap) : Prop := Kn P w K mg base CX0 2 "widened" ["sizes", "goals"] [] (spWide K)
end
end Bm
set_option maxHeartbeats 800000
namespace Bm
open PySem PySem.Spec PyProof.Rows L2
theorem goal_goes (d : De) : d.goal.isSome = d.goes := by cases d <;> rfl
theorem item_goes {x : Ld} (h : x.1.ok) : ∃ z r, itemV x = .str z :: r ∧ inV (.str z) [.str "jump", .str "call"] = x.1.goes := by
  obtain ⟨z, r, e1, e2⟩ := item_head h
  exact ⟨z, r, e1, by rw [e2, goal_goes]⟩
theorem item_end {x : Ld} (h : x.1.goes = true) : atI (itemV x) (-1) = some (.int (x.2 : Nat)) := by
  rw [← goal_goes] at h
  obtain ⟨g, e⟩ := Option.isSome_iff_exists.mp h
  exact item_last e
/-- the same deed with another goal -/
theorem item_set {x : Ld} {n : Nat} (h : x.1.goes = true) : cutV (itemV x) none (some (-1)) ++ [.int (n : Nat)] = itemV (x.1, n) := by
  obtain ⟨d, m⟩ := x
  cases d with
  | jump k g f => rw [cut_m1 (by show 1 ≤ 3; decide)]; rfl
  | call g f => rw [cut_m1 (by show 1 ≤ 2; decide)]; rfl
  | _ => cases h
theorem item_short (x : Ld) : (itemV x).length ≤ 4 := by
  obtain ⟨d, n⟩ := x
  cases d <;> simp [itemV, De.goal, De.vals]
theorem cut_set_len {x : Ld} (h : x.1.goes = true) : (cutV (itemV x) none (some (-1))).length + 1 ≤ 4 := by
  obtain ⟨d, m⟩ := x
  cases d with
  | jump k g f => rw [cut_m1 (by show 1 ≤ 3; decide)]; show 2 + 1 ≤ 4; decide
  | call g f => rw [cut_m1 (by show 1 ≤ 2; decide)]; show 1 + 1 ≤ 4; decide
  | _ => cases h
theorem sg_more : ∀ k, k < 7 → inV (.str (nm SG k)) [.str "halt", .str "back"] = decide (k = 0 ∨ k = 2) ∧ decide (V.str (nm SG k) = V.str "rest") = decide (k = 1) ∧ decide (V.str (nm SG k) = V.str "jump") = false := by decide +kernel
theorem sm_more : ∀ k, k < 8 → inV (.str (nm SM k)) [.str "halt", .str "back"] = false ∧ decide (V.str (nm SM k) = V.str "rest") = false ∧ decide (V.str (nm SM k) = V.str "jump") = false := by decide +kernel
theorem nm_more : ∀ z ∈ (["plus", "set", "high", "load", "store", "call"] : List Str), inV (.str z) [.str "halt", .str "back"] = false ∧ decide (V.str z = V.str "rest") = false ∧ decide (V.str z = V.str "jump") = false := by decide +kernel
theorem jump_more : inV (.str "jump") [.str "halt", .str "back"] = false ∧ decide (V.str "jump" = V.str "rest") = false ∧ decide (V.str "jump" = V.str "jump") = true := by decide +kernel
def isJump (x : Ld) : Bool := match x.1 with
  | .jump _ _ _ => true
  | _ => false
def isRest (x : Ld) : Bool := match x.1 with
  | .sgl 1 => true
  | _ => false
theorem idle_is (k : Nat) (x : Ld) : idleL k x = (isRest x || (isJump x && decide (x.2 = k + 1))) := by
  obtain ⟨d, n⟩ := x
  cases d with
  | sgl j =>
    match j with
    | 0 => rfl
    | 1 => rfl
    | j + 2 => rfl
  | jump j g f =>
    show decide (n = k + 1) = (false || (true && decide (n = k + 1)))
    simp
  | _ => rfl
theorem item_name {x : Ld} (h : x.1.ok) : ∃ z r, itemV x = .str z :: r ∧ inV (.str z) [.str "halt", .str "back"] = haltsL x ∧ decide (V.str z = V.str "rest") = isRest x ∧ decide (V.str z = V.str "jump") = isJump x := by
  obtain ⟨d, n⟩ := x
  cases d with
  | sgl k =>
    have hk : k < 3 := h
    obtain ⟨h1, h2, h3⟩ := sg_more k (by omega)
    refine ⟨_, _, rfl, ?_, ?_, h3⟩
    · rw [h1]
      match k with
      | 0 => rfl
      | 1 => rfl
      | 2 => rfl
    · rw [h2]
      match k with
      | 0 => rfl
      | 1 => rfl
      | 2 => rfl
  | reg k a =>
    obtain ⟨h1, h2, h3⟩ := sg_more k h.2.1
    have := h.1
    refine ⟨_, _, rfl, ?_, ?_, h3⟩
    · rw [h1]
      exact decide_eq_false (by omega)
    · rw [h2]
      exact decide_eq_false (by omega)
  | sum k d a b =>
    obtain ⟨h1, h2, h3⟩ := sm_more k h.1
    exact ⟨_, _, rfl, h1, h2, h3⟩
  | jump k g f => exact ⟨_, _, rfl, jump_more⟩
  | plus d a n => exact ⟨_, _, rfl, nm_more _ (by decide +kernel)⟩
  | set d n => exact ⟨_, _, rfl, nm_more _ (by decide +kernel)⟩
  | high d n => exact ⟨_, _, rfl, nm_more _ (by decide +kernel)⟩
  | load d a n => exact ⟨_, _, rfl, nm_more _ (by decide +kernel)⟩
  | store d a n => exact ⟨_, _, rfl, nm_more _ (by decide +kernel)⟩
  | call g f => exact ⟨_, _, rfl, nm_more _ (by decide +kernel)⟩
theorem cut_2 (xs : List V) : cutV xs none (some 2) = xs.take 2 := by
  unfold cutV
  rw [show HT.sIx xs.length xs.length (some 2) = min 2 xs.length from HT.sIx_nat xs.length xs.length 2, HT.sIx_none]
  show (xs.drop 0).take (min 2 xs.length - 0) = _
  rw [List.drop_zero, Nat.sub_zero, List.take_eq_take_min (i := 2)]
theorem tm_aj : ∀ k, k < 7 → decide (nm TM k = ("always" : Str)) = decide (k = 0) := by decide +kernel
theorem jn_sg : ∀ k, k < 7 → nm SG k ≠ ("jump" : Str) := by decide +kernel
theorem jn_sm : ∀ k, k < 8 → nm SM k ≠ ("jump" : Str) := by decide +kernel
theorem jn_more : ∀ z ∈ (["plus", "set", "high", "load", "store", "call"] : List Str), z ≠ ("jump" : Str) := by decide +kernel
theorem item_aj {x : Ld} (h : x.1.ok) : decide ((itemV x).take 2 = [V.str "jump", V.str "always"]) = ajL x := by
  obtain ⟨d, n⟩ := x
  have no : ∀ {z : Str} {r : List V}, z ≠ "jump" → decide ((V.str z :: r).take 2 = [V.str "jump", V.str "always"]) = false := fun hz => by
    refine decide_eq_false fun e => hz ?_
    rw [List.take_succ_cons] at e
    exact V.str.inj (List.cons.inj e).1
  cases d with
  | sgl k => exact no (jn_sg k (Nat.lt_trans h (by decide)))
  | reg k a => exact no (jn_sg k h.2.1)
  | sum k d a b => exact no (jn_sm k h.1)
  | jump k g f =>
    have e := tm_aj k h.1
    have e2 : decide ((itemV (.jump k g f, n)).take 2 = [V.str "jump", V.str "always"]) = decide (nm TM k = ("always" : Str)) := by
      show decide ([V.str "jump", V.str (nm TM k)] = [V.str "jump", V.str "always"]) = _
      refine decide_eq_decide.mpr ⟨fun z => V.str.inj (List.cons.inj (List.cons.inj z).2).1, fun z => by rw [z]⟩
    rw [e2, e]
    match k with
    | 0 => rfl
    | k + 1 => exact decide_eq_false (by omega)
  | plus d a n => exact no (jn_more _ (by decide +kernel))
  | set d n => exact no (jn_more _ (by decide +kernel))
  | high d n => exact no (jn_more _ (by decide +kernel))
  | load d a n => exact no (jn_more _ (by decide +kernel))
  | store d a n => exact no (jn_more _ (by decide +kernel))
  | call g f => exact no (jn_more _ (by decide +kernel))
section
variable {P : Program} {w : World} {K : PySem.W.Frag} {mg : Str → Option Value} {base : Heap} {f : Addr} {fd : FuncData} {dvs : List V}
/-! going_to -/
def spGoL (K : PySem.W.Frag) : Sp := fun vs H Q _ => ∃ (p : Addr) (x : Ld), vs = [.ref p] ∧ SqT K H p (itemV x) ∧ x.1.ok ∧ ∀ H', Same H H' → Q (goV (goL x)) H'
abbrev N_going_to : List Str := ["deed"]
theorem sc_going_to : FnScope ["deed"] ["deed"] (defScope s_going_to) := ⟨rfl, rfl, rfl, by decide +kernel, rfl, by decide +kernel, by decide +kernel⟩
theorem ok_goL (F : FnP K "going_to" s_going_to dvs f fd) : FnOk P w K mg base CX0 1 f fd ["deed"] (spGoL K) := by
  refine F.ok sc_going_to (fun vs H Q E h => ?_) (fun cdv A outer s H vs Q E hr h => ?_)
  · obtain ⟨p, x, rfl, _⟩ := h
    rfl
  · obtain ⟨p, x, rfl, hS, hok, q⟩ := h
    refine ⟨_, PSs.nox (pss_one (ps_ret (pe_ifExp (pt_cmpR op_in_seq (pe_ix ix_tup (pv 0) pe_int (fun _ _ => rfl)) (pe_tup (pa_cons pe_str (pa_cons pe_str pa_nil))) rfl) (pe_ix ix_tup (pv 0) (pe_un un_neg pe_int) (fun _ _ => rfl)) pe_non))), ?_⟩
    obtain ⟨z, r, e1, e2⟩ := item_goes hok
    refine ⟨_, rfl, p, _, _, _, rfl, rfl, hS, by rw [e1]; exact at0, line5 (by simp), fun t ht => ?_⟩
    have s1 : Same H (upd H t (.tup [V.str "jump", V.str "call"])) := Same.add ht
    have h1 : (upd H t (.tup [V.str "jump", V.str "call"])) t = some (.tup [V.str "jump", V.str "call"]) := upd_same
    generalize upd H t (.tup [V.str "jump", V.str "call"]) = H1 at s1 h1 ⊢
    refine ⟨t, _, rfl, .inr (SqT.of h1), rfl, rfl, _, rfl, ?_⟩
    have ev : (if (false : Bool) = true then !inV (V.str z) [.str "jump", .str "call"] else inV (V.str z) [.str "jump", .str "call"]) = x.1.goes := by rw [if_neg (by decide)]; exact e2
    have q := q H1 s1
    unfold goL at q
    by_cases c : x.1.goes = true
    · rw [if_pos c] at q
      exact iteT' (ev.trans c) ⟨_, rfl, _, rfl, p, _, _, _, rfl, rfl, Same.tup s1 hS, item_end c, q⟩
    · rw [if_neg c] at q
      exact iteF' (ev.trans (Bool.not_eq_true _ ▸ c)) q
abbrev KnGoing (P : Program) (w : World) (K : PySem.W.Frag) (mg : Str → Option Value) (base : Heap) : Prop := Kn P w K mg base CX0 1 "going_to" ["deed"] [] (spGoL K)
/-! always_jumps -/
def spAj (K : PySem.W.Frag) : Sp := fun vs H Q _ => ∃ (p : Addr) (x : Ld), vs = [.ref p] ∧ SqT K H p (itemV x) ∧ x.1.ok ∧ ∀ H', Same H H' → Q (.bl (ajL x)) H'
abbrev N_always_jumps : List Str := ["deed"]
theorem sc_always_jumps : FnScope ["deed"] ["deed"] (defScope s_always_jumps) := ⟨rfl, rfl, rfl, by decide +kernel, rfl, by decide +kernel, by decide +kernel⟩
theorem ok_aj (F : FnP K "always_jumps" s_always_jumps dvs f fd) : FnOk P w K mg base CX0 1 f fd ["deed"] (spAj K) := by
  refine F.ok sc_always_jumps (fun vs H Q E h => ?_) (fun cdv A outer s H vs Q E hr h => ?_)
  · obtain ⟨p, x, rfl, _⟩ := h
    rfl
  · obtain ⟨p, x, rfl, hS, hok, q⟩ := h
    refine ⟨_, PSs.nox (pss_one (ps_ret (pe_cmpR (op_eqD hr.units) (pe_slice sl_tupA (pv 0) po_none (po_some pe_int)) (pe_tup (pa_cons pe_str (pa_cons pe_str pa_nil))) (nomark _)))), ?_⟩
    refine ⟨_, rfl, _, rfl, rsl hS fun t H1 s1 ht => ⟨line5 (by simp), fun u hu => ?_⟩⟩
    rw [cut_2] at ht
    have s2 : Same H1 (upd H1 u (.tup [V.str "jump", V.str "always"])) := Same.add hu
    have e2 : (upd H1 u (.tup [V.str "jump", V.str "always"])) u = some (.tup [V.str "jump", V.str "always"]) := upd_same
    generalize upd H1 u (.tup [V.str "jump", V.str "always"]) = H2 at s2 e2 ⊢
    have n1 : ((itemV x).take 2).all numS = true := List.all_eq_true.mpr fun v hv => List.all_eq_true.mp (item_numS hok) v (List.mem_of_mem_take hv)
    have n2 : [V.str "jump", V.str "always"].all numS = true := by decide +kernel
    refine ⟨_, _, .tup (Same.tup s2 ht) (dp_plain (numS_plains n1)), .tup (SqT.of e2) (dp_plain (numS_plains n2)), tup_shaped n1, tup_shaped n2, ?_⟩
    rw [tup_eqv n1 n2, item_aj hok]
    exact q H2 (Same.trans s1 s2)
abbrev KnAj (P : Program) (w : World) (K : PySem.W.Frag) (mg : Str → Option Value) (base : Heap) : Prop := Kn P w K mg base CX0 1 "always_jumps" ["deed"] [] (spAj K)
end
end Bm
set_option maxHeartbeats 800000
namespace Bm
open PySem PySem.Spec PyProof.Rows L2
section
variable {P : Program} {w : World} {K : PySem.W.Frag} {mg : Str → Option Value} {base : Heap} {f : Addr} {fd : FuncData} {dvs : List V}
theorem asgL {t : TE} {g : TG} {D : Ends} {σ : L2.St} {H : Hp} {R : V → Hp → Prop} (h : ∀ kk : VK, (∀ v H', R v H' → kk v H') → t σ H kk) (q : ∀ v H', R v H' → g v σ H' fun σ2 H2 => D.nx σ2 H2) : tAsg t g D σ H := h _ q
/-! is_idle -/
def spIdle (K : PySem.W.Frag) : Sp := fun vs H Q _ => ∃ (p : Addr) (x : Ld) (k : Nat), vs = [.ref p, .int (k : Nat)] ∧ SqT K H p (itemV x) ∧ x.1.ok ∧ ∀ H', Same H H' → Q (.bl (idleL k x)) H'
theorem goD (x : Ld) (k : Nat) : ∃ d, (∀ K H, Dp K H (goV (goL x)) d) ∧ SeqAt.shaped d = true ∧ (x.1.goes = true → PyData.eqv d (.int ((k : Int) + 1)) = decide (x.2 = k + 1)) := by
  unfold goL
  by_cases c : x.1.goes = true
  · rw [if_pos c]
    refine ⟨.int (x.2 : Nat), fun K H => .int _, rfl, fun _ => ?_⟩
    have e : PyData.eqv (.int ((x.2 : Nat) : Int)) (.int ((k : Int) + 1)) = decide (((x.2 : Nat) : Int) = (k : Int) + 1) := by
      simp [PyData.eqv]
      rfl
    rw [e]
    exact decide_eq_decide.mpr ⟨fun h => by omega, fun h => by omega⟩
  · rw [if_neg c]
    exact ⟨.none, fun K H => .non, rfl, fun h => absurd h c⟩
abbrev N_is_idle : List Str := ["deed", "number"]
theorem sc_is_idle : FnScope ["deed", "number"] ["deed", "number"] (defScope s_is_idle) := ⟨rfl, rfl, rfl, by decide +kernel, rfl, by decide +kernel, by decide +kernel⟩
theorem ok_idle (F : FnP K "is_idle" s_is_idle dvs f fd) (k_going_to : KnGoing P w K mg base) : FnOk P w K mg base CX0 2 f fd ["deed", "number"] (spIdle K) := by
  refine F.ok sc_is_idle (fun vs H Q E h => ?_) (fun cdv A outer s H vs Q E hr h => ?_)
  · obtain ⟨p, x, k, rfl, _⟩ := h
    rfl
  · obtain ⟨p, x, k, rfl, hS, hok, q⟩ := h
    refine ⟨_, PSs.nox (pss_one (ps_ret (pe_or (pe_cmpR op_eq (pe_ix ix_tup (pv 0) pe_int (fun _ _ => rfl)) pe_str (nomark _)) (pe_one (pe_and (pe_cmpR op_eq (pe_ix ix_tup (pv 0) pe_int (fun _ _ => rfl)) pe_str (nomark _)) (pe_one (pe_cmpR (op_eqD hr.units) (pk k_going_to hr (by decide) rfl pass0 (pa_cons (pv 0) pa_nil)) (pe_op op_add (pv 1) pe_int) (nomark _)))))))), ?_⟩
    obtain ⟨z, r, e1, e2, e3, e4⟩ := item_name hok
    rw [idle_is] at q
    refine ⟨_, rfl, p, _, _, _, rfl, rfl, hS, by rw [e1]; exact at0, rfl, _, rfl, ?_⟩
    show if decide (V.str z = V.str "rest") = true then _ else _
    rw [e3]
    cases c : isRest x with
    | true =>
      rw [c] at q
      exact iteT (q H (Same.refl H))
    | false =>
      rw [c] at q
      refine iteF ⟨_, rfl, p, _, _, _, rfl, rfl, hS, by rw [e1]; exact at0, rfl, _, rfl, ?_⟩
      show if decide (V.str z = V.str "jump") = true then _ else _
      rw [e4]
      cases c2 : isJump x with
      | true =>
        rw [c2] at q
        have hg : x.1.goes = true := by
          unfold isJump at c2
          split at c2
          · rename_i e
            rw [e]
            rfl
          · cases c2
        obtain ⟨d, h1, h2, h3⟩ := goD x k
        refine iteT ⟨_, rfl, p, x, rfl, hS, hok, fun H1 s1 => ⟨_, rfl, _, _, rfl, rfl, d, .int _, h1 _ _, .int _, h2, rfl, ?_⟩⟩
        rw [h3 hg]
        exact q H1 s1
      | false =>
        rw [c2] at q
        exact iteF (q H (Same.refl H))
abbrev KnIdle (P : Program) (w : World) (K : PySem.W.Frag) (mg : Str → Option Value) (base : Heap) : Prop := Kn P w K mg base CX0 2 "is_idle" ["deed", "number"] [] (spIdle K)
/-! moved -/
def spMoved (K : PySem.W.Frag) : Sp := fun vs H Q _ => ∃ (p b : Addr) (x : Ld) (bs : List Nat), vs = [.ref p, .ref b] ∧ SqT K H p (itemV x) ∧ x.1.ok ∧ SqL K H b (vNat bs) ∧ (x.1.goes = true → x.2 < bs.length) ∧ ∀ t H', Same H H' → SqT K H' t (itemV (movedL (fun j => bs.getD j 0) x)) → Q (.ref t) H'
theorem goV_non (x : Ld) : decide (goV (goL x) = V.non) = !x.1.goes := by
  unfold goL
  by_cases c : x.1.goes = true
  · rw [if_pos c, c]
    exact decide_eq_false (fun e => by cases e)
  · rw [if_neg c, eq_false_of_ne_true c]
    exact decide_eq_true rfl
abbrev N_moved : List Str := ["deed", "behind", "goal"]
theorem sc_moved : FnScope ["deed", "behind", "goal"] ["deed", "behind"] (defScope s_moved) := ⟨rfl, rfl, rfl, by decide +kernel, rfl, by decide +kernel, by decide +kernel⟩
theorem ok_moved (F : FnP K "moved" s_moved dvs f fd) (k_going_to : KnGoing P w K mg base) : FnOk P w K mg base CX0 2 f fd ["deed", "behind"] (spMoved K) := by
  refine F.ok sc_moved (fun vs H Q E h => ?_) (fun cdv A outer s H vs Q E hr h => ?_)
  · obtain ⟨p, b, x, bs, rfl, _⟩ := h
    rfl
  · obtain ⟨p, b, x, bs, rfl, hS, hok, hb, hl, q⟩ := h
    refine ⟨_, PSs.nox (pss_cons (ps_set (i := 2) sc_moved.nd rfl (Or.inl rfl) (pk k_going_to hr (by decide) rfl pass0 (pa_cons (pv 0) pa_nil)))
      (pss_one (ps_ret (pe_ifExp (pt_cmpR op_isN (pv 2) pe_non (nomark _)) (pv 0) (pe_op op_catA (pe_slice sl_tupA (pv 0) po_none (po_some (pe_un un_neg pe_int))) (pe_tup (pa_cons (pe_ix ix_list (pv 1) (pv 2) (fun _ _ => rfl)) pa_nil))))))), ?_⟩
    refine ⟨_, rfl, p, x, rfl, hS, hok, fun H1 s1 => ?_⟩
    refine ⟨_, rfl, rfl, _, rfl, ?_⟩
    show if decide (goV (goL x) = V.non) = true then _ else _
    rw [goV_non]
    unfold movedL at q
    by_cases c : x.1.goes = true
    · rw [c]
      rw [if_pos c] at q
      have eg : goL x = some x.2 := by unfold goL; rw [if_pos c]
      rw [eg]
      have hbx : atI (vNat bs) ((x.2 : Nat) : Int) = some (.int (bs.getD x.2 0 : Nat)) := atI_nat (by
        unfold vNat
        rw [List.getElem?_map, List.getD_eq_getElem?_getD, List.getElem?_eq_getElem (hl c)]
        rfl)
      refine iteF ⟨_, rfl, _, rfl, _, rfl, rsl (Same.tup s1 hS) fun t H2 s2 ht => ?_⟩
      refine ⟨_, rfl, _, rfl, b, _, _, _, rfl, rfl, s2.seq (s1.seq hb), hbx, line5 (by simp), fun u hu => ?_⟩
      have s3 : Same H2 (upd H2 u (.tup [V.int (bs.getD x.2 0 : Nat)])) := Same.add hu
      have e3 : (upd H2 u (.tup [V.int (bs.getD x.2 0 : Nat)])) u = some (.tup [V.int (bs.getD x.2 0 : Nat)]) := upd_same
      generalize upd H2 u (.tup [V.int (bs.getD x.2 0 : Nat)]) = H3 at s3 e3 ⊢
      refine rcat (Same.tup s3 ht) (SqT.of e3) (by have := cut_set_len c; simp only [List.length_cons, List.length_nil]; omega) fun v H4 s4 hv => ?_
      rw [item_set c] at hv
      exact q v H4 (Same.trans s1 (Same.trans s2 (Same.trans s3 s4))) hv
    · rw [eq_false_of_ne_true c]
      rw [if_neg c] at q
      exact iteT ⟨_, rfl, q p H1 s1 (Same.tup s1 hS)⟩
abbrev KnMoved (P : Program) (w : World) (K : PySem.W.Frag) (mg : Str → Option Value) (base : Heap) : Prop := Kn P w K mg base CX0 2 "moved" ["deed", "behind"] [] (spMoved K)
/-! numbers_behind -/
def spNext (K : PySem.W.Frag) : Sp := fun vs H Q _ => ∃ (p : Addr) (x : Ld) (k : Nat), vs = [.ref p, .int (k : Nat)] ∧ SqT K H p (itemV x) ∧ x.1.ok ∧ ∀ D H', Same H H' → H D = none → H' D = some (.lst (vNat (nextL k x))) → Q (.ref D) H'
abbrev N_numbers_behind : List Str := ["deed", "number", "goals"]
theorem sc_numbers_behind : FnScope ["deed", "number", "goals"] ["deed", "number"] (defScope s_numbers_behind) := ⟨rfl, rfl, rfl, by decide +kernel, rfl, by decide +kernel, by decide +kernel⟩
theorem ok_next (F : FnP K "numbers_behind" s_numbers_behind dvs f fd) (k_going_to : KnGoing P w K mg base) (k_always_jumps : KnAj P w K mg base) : FnOk P w K mg base CX0 2 f fd ["deed", "number"] (spNext K) := by
  refine F.ok sc_numbers_behind (fun vs H Q E h => ?_) (fun cdv A outer s H vs Q E hr h => ?_)
  · obtain ⟨p, x, k, rfl, _⟩ := h
    rfl
  · obtain ⟨p, x, k, rfl, hS, hok, q⟩ := h
    refine ⟨_, PSs.nox (pss_cons (ps_set (i := 2) sc_numbers_behind.nd rfl (Or.inl rfl) (pe_ifExp (pt_cmpR op_isN (pk k_going_to hr (by decide) rfl pass0 (pa_cons (pv 0) pa_nil)) pe_non (nomark _)) (pe_lst pa_nil) (pe_lst (pa_cons (pk k_going_to hr (by decide) rfl pass0 (pa_cons (pv 0) pa_nil)) pa_nil))))
      (pss_cons (ps_if (PW.pt (pw_or (pt_cmpR op_in_seq (pe_ix ix_tup (pv 0) pe_int (fun _ _ => rfl)) (pe_tup (pa_cons pe_str (pa_cons pe_str pa_nil))) rfl) (pw_or1 (pt_val (pk k_always_jumps hr (by decide) rfl pass0 (pa_cons (pv 0) pa_nil)))))) (pss_one (ps_ret (pv 2))) pss_nil)
      (pss_one (ps_ret (pe_op op_cat (pv 2) (pe_lst (pa_cons (pe_op op_add (pv 1) pe_int) pa_nil))))))), ?_⟩
    obtain ⟨z, r, e1, e2, e3, e4⟩ := item_name hok
    refine asgL (R := fun v G => ∃ D, v = .ref D ∧ Same H G ∧ H D = none ∧ G D = some (.lst (vNat (goL x).toList))) (fun kk hk => ?_) ?_
    · refine ⟨_, rfl, p, x, rfl, hS, hok, fun H1 s1 => ⟨rfl, _, rfl, ?_⟩⟩
      show if decide (goV (goL x) = V.non) = true then _ else _
      rw [goV_non]
      by_cases c : x.1.goes = true
      · rw [c]
        have eg : goL x = some x.2 := by unfold goL; rw [if_pos c]
        refine iteF ⟨_, rfl, p, x, rfl, Same.tup s1 hS, hok, fun H2 s2 => ⟨line5 (by simp), fun D hD => ?_⟩⟩
        have s12 := Same.trans s1 s2
        rw [eg]
        exact hk _ _ ⟨D, rfl, Same.trans s12 (Same.add hD), Same.none s12 hD, by rw [upd_same, eg]; rfl⟩
      · rw [eq_false_of_ne_true c]
        have eg : goL x = none := by unfold goL; rw [if_neg c]
        refine iteT ⟨line5 (by simp), fun D hD => ?_⟩
        exact hk _ _ ⟨D, rfl, Same.trans s1 (Same.add hD), Same.none s1 hD, by rw [upd_same, eg]; rfl⟩
    · rintro v G ⟨D, rfl, sG, hDn, hD⟩
      refine ⟨_, rfl, p, _, _, _, rfl, rfl, Same.tup sG hS, by rw [e1]; exact at0, line5 (by simp), fun t ht => ?_⟩
      have s1 : Same G (upd G t (.tup [V.str "halt", V.str "back"])) := Same.add ht
      have h1 : (upd G t (.tup [V.str "halt", V.str "back"])) t = some (.tup [V.str "halt", V.str "back"]) := upd_same
      generalize upd G t (.tup [V.str "halt", V.str "back"]) = H1 at s1 h1 ⊢
      refine ⟨t, _, rfl, .inr (SqT.of h1), rfl, rfl, _, rfl, ?_⟩
      have ev : (if (false : Bool) = true then !inV (V.str z) [.str "halt", .str "back"] else inV (V.str z) [.str "halt", .str "back"]) = haltsL x := by rw [if_neg (by decide)]; exact e2
      have s01 := Same.trans sG s1
      have hD1 := s1 _ _ hD
      unfold nextL at q
      by_cases c : haltsL x = true
      · rw [c] at q
        refine iteT' (ev.trans c) ⟨_, rfl, q D H1 s01 hDn ?_⟩
        rw [hD1]
        simp
      · refine iteF' (ev.trans (eq_false_of_ne_true c)) ⟨_, rfl, p, x, rfl, Same.tup s01 hS, hok, fun H2 s2 => ⟨_, rfl, ?_⟩⟩
        rw [eq_false_of_ne_true c, Bool.false_or] at q
        have s02 := Same.trans s01 s2
        have hD2 := s2 _ _ hD1
        by_cases c2 : ajL x = true
        · rw [c2] at q ⊢
          refine iteT ⟨_, rfl, q D H2 s02 hDn ?_⟩
          rw [hD2]
          simp
        · rw [eq_false_of_ne_true c2] at q ⊢
          refine iteF ⟨_, rfl, _, rfl, _, _, rfl, rfl, line5 (by simp), fun u hu => ?_⟩
          have s3 : Same H2 (upd H2 u (.lst [V.int ((k : Nat) + 1)])) := Same.add hu
          have e3 : (upd H2 u (.lst [V.int ((k : Nat) + 1)])) u = some (.lst [V.int ((k : Nat) + 1)]) := upd_same
          generalize upd H2 u (.lst [V.int ((k : Nat) + 1)]) = H3 at s3 e3 ⊢
          refine ⟨D, u, _, _, rfl, rfl, s3 _ _ hD2, e3, line5 (by unfold vNat; rw [List.length_map]; have : (goL x).toList.length ≤ 1 := by cases goL x <;> simp
                                                                  simp only [List.length_cons, List.length_nil]; omega), fun y hy => ?_⟩
          have s03 := Same.trans s02 s3
          refine q y _ (Same.trans s03 (Same.add hy)) (Same.none s03 hy) ?_
          rw [upd_same]
          unfold vNat
          rw [List.map_append]
          rfl
abbrev KnNext (P : Program) (w : World) (K : PySem.W.Frag) (mg : Str → Option Value) (base : Heap) : Prop := Kn P w K mg base CX0 2 "numbers_behind" ["deed", "number"] [] (spNext K)
end
end Bm
set_option maxHeartbeats 800000
namespace Bm
open PySem PySem.Spec PyProof.Rows L2
/-- a list of deeds, as it stands -/
structure Lst (K : PySem.W.Frag) (H : Hp) (rs : List V) (ls : List Ld) : Prop where
  tups : TupsV K H rs (ls.map itemV)
  ok : OkL ls
  deeds : ∀ x ∈ ls, x.1.ok
  few : ls.length ≤ 1000
theorem Lst.same {K : PySem.W.Frag} {H H' : Hp} {rs : List V} {ls : List Ld} (h : Lst K H rs ls) (e : Same H H') : Lst K H' rs ls :=
  ⟨h.tups.map (fun a xs => Same.tup (H' := H') (a := a) (xs := xs) e), h.ok, h.deeds, h.few⟩
theorem Lst.len {K : PySem.W.Frag} {H : Hp} {rs : List V} {ls : List Ld} (h : Lst K H rs ls) : rs.length = ls.length := by
  rw [h.tups.len, List.length_map]
theorem Lst.at_ {K : PySem.W.Frag} {H : Hp} {rs : List V} {ls : List Ld} (h : Lst K H rs ls) {k : Nat} {x : Ld} (hx : ls[k]? = some x) : ∃ p, rs[k]? = some (.ref p) ∧ SqT K H p (itemV x) ∧ x.1.ok :=
  let ⟨p, h1, h2⟩ := h.tups.at_ (i := k) (l := itemV x) (by rw [List.getElem?_map, hx]; rfl)
  ⟨p, h1, h2, h.deeds x (List.mem_of_getElem? hx)⟩
section
variable {P : Program} {w : World} {K : PySem.W.Frag} {mg : Str → Option Value} {base : Heap} {f : Addr} {fd : FuncData} {dvs : List V}
/-! end_of -/
def spEnd (K : PySem.W.Frag) : Sp := fun vs H Q _ => ∃ (a : Addr) (rs : List V) (ls : List Ld) (g : Nat), vs = [.ref a, .int (g : Nat)] ∧ SqL K H a rs ∧ Lst K H rs ls ∧ g ≤ ls.length ∧ ∀ H', Same H H' → Q (goV (endL ls g)) H'
abbrev N_end_of : List Str := ["deeds", "goal", "_"]
theorem sc_end_of : FnScope ["deeds", "goal", "_"] ["deeds", "goal"] (defScope s_end_of) := ⟨rfl, rfl, rfl, by decide +kernel, rfl, by decide +kernel, by decide +kernel⟩
theorem ok_end (F : FnP K "end_of" s_end_of dvs f fd) (k_going_to : KnGoing P w K mg base) (k_always_jumps : KnAj P w K mg base) (g_range : mg "range" = none) (g_len : mg "len" = none) : FnOk P w K mg base CX0 2 f fd ["deeds", "goal"] (spEnd K) := by
  refine F.ok sc_end_of (fun vs H Q E h => ?_) (fun cdv A outer s H vs Q E hr h => ?_)
  · obtain ⟨a, rs, ls, g, rfl, _⟩ := h
    rfl
  · obtain ⟨a, rs, ls, g, rfl, hS, hL, hg, q⟩ := h
    refine ⟨_, PSs.nox (pss_cons (ps_for PassesOwn.never rfl (pi_range1 rfl g_range (pa_cons (pe_op op_add (pe_callB call_len rfl g_len boot_len (pa_cons (pv 0) pa_nil)) pe_int) pa_nil)) (pg_name (i := 2) sc_end_of.nd rfl (Or.inl rfl))
      (pss_cons (ps_if (PW.pt (pw_or (pt_cmpR op_eq (pv 1) (pe_callB call_len rfl g_len boot_len (pa_cons (pv 0) pa_nil)) (nomark _)) (pw_or1 (pt_not (pt_val (pk k_always_jumps hr (by decide) rfl pass0 (pa_cons (pe_ix ix_list (pv 0) (pv 1) (fun _ _ => rfl)) pa_nil))))))) (pss_one (ps_ret (pv 1))) pss_nil)
      (pss_one (ps_set (i := 1) sc_end_of.nd rfl (Or.inl rfl) (pk k_going_to hr (by decide) rfl pass0 (pa_cons (pe_ix ix_list (pv 0) (pv 1) (fun _ _ => rfl)) pa_nil))))))
      (pss_one (ps_ret pe_non))), ?_⟩
    have hrl := hL.len
    have hfew := hL.few
    refine ⟨_, rfl, _, _, rfl, .inl ⟨_, hS, rfl⟩, _, _, rfl, rfl, _, rfl, by omega, by omega, for_range (n := (((rs.length : Nat) : Int) + 1).toNat) (fun i σ G => ∃ (g' : Nat) (v : Option V), σ = [some (.ref a), some (.int (g' : Nat)), v] ∧ Same H G ∧ g' ≤ ls.length ∧ endL ls g = endF ls (ls.length + 1 - i) g')
      ⟨g, none, rfl, Same.refl _, hg, rfl⟩ ?_ ?_⟩
    · rintro i σ G hi ⟨g', v, rfl, sG, hg', e⟩
      have hi : i < ls.length + 1 := by omega
      refine ⟨_, rfl, _, rfl, _, _, rfl, .inl ⟨_, sG.seq hS, rfl⟩, rfl, _, rfl, ?_⟩
      show if decide (V.int (g' : Nat) = V.int (rs.length : Nat)) = true then _ else _
      have e1 : ls.length + 1 - i = (ls.length - i) + 1 := by omega
      rw [e1] at e
      unfold endF at e
      by_cases c : g' = ls.length
      · rw [decide_eq_true (by rw [c, hrl])]
        rw [c, List.getElem?_eq_none (Nat.le_refl _)] at e
        rw [e] at q
        refine iteT (iteT ⟨_, rfl, ?_⟩)
        rw [c]
        exact q G sG
      · rw [decide_eq_false (fun z => c (by have := V.int.inj z; omega))]
        have hx := List.getElem?_eq_getElem (show g' < ls.length by omega)
        generalize ls[g'] = x at hx
        obtain ⟨p, h1, h2, h3⟩ := hL.at_ hx
        rw [hx] at e
        simp only at e
        have hat : atI rs ((g' : Nat) : Int) = some (.ref p) := atI_nat h1
        refine iteF ⟨_, rfl, _, rfl, a, _, _, _, rfl, rfl, sG.seq hS, hat, p, x, rfl, Same.tup sG h2, h3, fun G1 s1 => ⟨_, rfl, ?_⟩⟩
        have s01 := Same.trans sG s1
        by_cases c2 : ajL x = true
        · rw [if_pos c2] at e
          rw [c2]
          have hgx := aj_goes c2
          have eg : goL x = some x.2 := by unfold goL; rw [if_pos hgx]
          refine iteF ⟨_, rfl, _, rfl, a, _, _, _, rfl, rfl, s01.seq hS, hat, p, x, rfl, Same.tup s01 h2, h3, fun G2 s2 => ?_⟩
          rw [eg]
          exact ⟨x.2, _, rfl, Same.trans s01 s2, hL.ok x (List.mem_of_getElem? hx) hgx, by rw [e]; congr 1; omega⟩
        · rw [if_neg c2] at e
          rw [eq_false_of_ne_true c2]
          rw [e] at q
          exact iteT ⟨_, rfl, q G1 s01⟩
    · rintro σ G ⟨g', v, rfl, sG, hg', e⟩
      have e1 : ls.length + 1 - ((((rs.length : Nat) : Int) + 1).toNat) = 0 := by omega
      rw [e1] at e
      rw [e] at q
      exact q G sG
abbrev KnEnd (P : Program) (w : World) (K : PySem.W.Frag) (mg : Str → Option Value) (base : Heap) : Prop := Kn P w K mg base CX0 2 "end_of" ["deeds", "goal"] [] (spEnd K)
/-! led -/
def spLed (K : PySem.W.Frag) : Sp := fun vs H Q _ => ∃ (a : Addr) (rs : List V) (ls : List Ld) (k : Nat) (x : Ld), vs = [.ref a, .int (k : Nat)] ∧ SqL K H a rs ∧ Lst K H rs ls ∧ ls[k]? = some x ∧ ∀ t H', Same H H' → SqT K H' t (itemV (ledL ls k x)) → Q (.ref t) H'
abbrev N_led : List Str := ["deeds", "number", "deed", "goal", "end"]
theorem sc_led : FnScope ["deeds", "number", "deed", "goal", "end"] ["deeds", "number"] (defScope s_led) := ⟨rfl, rfl, rfl, by decide +kernel, rfl, by decide +kernel, by decide +kernel⟩
theorem ok_led (F : FnP K "led" s_led dvs f fd) (k_going_to : KnGoing P w K mg base) (k_always_jumps : KnAj P w K mg base) (k_end_of : KnEnd P w K mg base) : FnOk P w K mg base CX0 3 f fd ["deeds", "number"] (spLed K) := by
  refine F.ok sc_led (fun vs H Q E h => ?_) (fun cdv A outer s H vs Q E hr h => ?_)
  · obtain ⟨a, rs, ls, k, x, rfl, _⟩ := h
    rfl
  · obtain ⟨a, rs, ls, k, x, rfl, hS, hL, hx, q⟩ := h
    refine ⟨_, PSs.nox (pss_cons (ps_set (i := 2) sc_led.nd rfl (Or.inl rfl) (pe_ix ix_list (pv 0) (pv 1) (fun _ _ => rfl)))
      (pss_cons (ps_set (i := 3) sc_led.nd rfl (Or.inl rfl) (pk k_going_to hr (by decide) rfl pass0 (pa_cons (pv 2) pa_nil)))
      (pss_cons (ps_if (pt_cmpR op_isN (pv 3) pe_non (nomark _)) (pss_one (ps_ret (pv 2))) pss_nil)
      (pss_cons (ps_set (i := 4) sc_led.nd rfl (Or.inl rfl) (pk k_end_of hr (by decide) rfl pass0 (pa_cons (pv 0) (pa_cons (pv 3) pa_nil))))
      (pss_cons (ps_if (pt_cmpR op_notN (pv 4) pe_non (nomark _)) (pss_one (ps_ret (pe_op op_catA (pe_slice sl_tupA (pv 2) po_none (po_some (pe_un un_neg pe_int))) (pe_tup (pa_cons (pv 4) pa_nil))))) pss_nil)
      (pss_one (ps_ret (pe_ifExp (pt_val (pk k_always_jumps hr (by decide) rfl pass0 (pa_cons (pv 2) pa_nil))) (pe_op op_catA (pe_slice sl_tupA (pv 2) po_none (po_some (pe_un un_neg pe_int))) (pe_tup (pa_cons (pv 1) pa_nil))) (pv 2))))))))), ?_⟩
    obtain ⟨p, h1, h2, h3⟩ := hL.at_ hx
    refine ⟨_, rfl, _, rfl, a, _, _, _, rfl, rfl, hS, atI_nat h1, _, rfl, p, x, rfl, h2, h3, fun H1 s1 => ?_⟩
    refine ⟨_, rfl, rfl, _, rfl, ?_⟩
    show if decide (goV (goL x) = V.non) = true then _ else _
    rw [goV_non]
    unfold ledL at q
    by_cases c : x.1.goes = true
    · rw [c]
      rw [if_pos c] at q
      have eg : goL x = some x.2 := by unfold goL; rw [if_pos c]
      rw [eg]
      have fin_ : ∀ (n : Nat) (G t : _) (s : Same H G) (ht : SqT K G t (cutV (itemV x) none (some (-1)))) (hq : ∀ t H', Same H H' → SqT K H' t (itemV (x.1, n)) → Q (.ref t) H') (u : Addr), G u = none → rCatA K (.ref t) (.ref u) (upd G u (.tup [V.int (n : Nat)])) Q := fun n G t sG ht hq u hu => by
        have s3 : Same G (upd G u (.tup [V.int (n : Nat)])) := Same.add hu
        have e3 : (upd G u (.tup [V.int (n : Nat)])) u = some (.tup [V.int (n : Nat)]) := upd_same
        generalize upd G u (.tup [V.int (n : Nat)]) = G3 at s3 e3 ⊢
        refine rcat (Same.tup s3 ht) (SqT.of e3) (by have := cut_set_len c; simp only [List.length_cons, List.length_nil]; omega) fun v G4 s4 hv => ?_
        rw [item_set c] at hv
        exact hq v G4 (Same.trans sG (Same.trans s3 s4)) hv
      refine iteF ⟨_, rfl, _, rfl, a, rs, ls, x.2, rfl, s1.seq hS, hL.same s1, hL.ok x (List.mem_of_getElem? hx) c, fun H2 s2 => ?_⟩
      have s02 := Same.trans s1 s2
      refine ⟨_, rfl, rfl, _, rfl, ?_⟩
      cases ee : endL ls x.2 with
      | some e =>
        rw [ee] at q
        exact iteT ⟨_, rfl, _, rfl, _, rfl, rsl (Same.tup s02 h2) fun t G2 s2 ht => ⟨_, rfl, line5 (by simp), fun u hu => fin_ e G2 t (Same.trans s02 s2) ht q u hu⟩⟩
      | none =>
        rw [ee] at q
        refine iteF ⟨_, rfl, p, x, rfl, Same.tup s02 h2, h3, fun H3 s3 => ⟨_, rfl, ?_⟩⟩
        have s03 := Same.trans s02 s3
        by_cases c2 : ajL x = true
        · rw [c2]
          have q := fun t H' => (show ∀ t H', Same H H' → SqT K H' t (itemV (if ajL x = true then (x.1, k) else x)) → Q (.ref t) H' from q) t H'
          rw [if_pos c2] at q
          exact iteT ⟨_, rfl, _, rfl, _, rfl, rsl (Same.tup s03 h2) fun t G2 s2 ht => ⟨_, rfl, line5 (by simp), fun u hu => fin_ k G2 t (Same.trans s03 s2) ht q u hu⟩⟩
        · rw [eq_false_of_ne_true c2]
          have q := fun t H' => (show ∀ t H', Same H H' → SqT K H' t (itemV (if ajL x = true then (x.1, k) else x)) → Q (.ref t) H' from q) t H'
          rw [if_neg c2] at q
          exact iteF ⟨_, rfl, q p H3 s03 (Same.tup s03 h2)⟩
    · rw [eq_false_of_ne_true c]
      rw [if_neg c] at q
      exact iteT ⟨_, rfl, q p H1 s1 (Same.tup s1 h2)⟩
abbrev KnLed (P : Program) (w : World) (K : PySem.W.Frag) (mg : Str → Option Value) (base : Heap) : Prop := Kn P w K mg base CX0 3 "led" ["deeds", "number"] [] (spLed K)
end
end Bm
set_option maxHeartbeats 800000
namespace Bm
open PySem PySem.Spec PyProof.Rows L2
def trueK (ks : List Nat) : List (Key × V) := ks.map fun (k : Nat) => (Sum.inl (k : Int), V.bl true)
theorem val_trueK : ∀ (ks : List Nat) (n : Nat), valV (trueK ks) (Sum.inl (n : Int)) = if n ∈ ks then some (.bl true) else none
  | [], n => rfl
  | k :: ks, n => by
    have ih := val_trueK ks n
    by_cases c : k = n
    · rw [if_pos (by rw [c]; exact List.mem_cons_self ..)]
      exact valV_pos (p := ((Sum.inl (k : Int) : Key), V.bl true)) (by rw [c])
    · have e : valV (trueK (k :: ks)) (Sum.inl (n : Int)) = valV (trueK ks) (Sum.inl (n : Int)) := valV_neg (p := ((Sum.inl (k : Int) : Key), V.bl true)) (fun z => c (by have z := Sum.inl.inj z; omega))
      rw [e, ih]
      by_cases d : n ∈ ks
      · rw [if_pos d, if_pos (List.mem_cons_of_mem _ d)]
      · rw [if_neg d, if_neg (fun z => (List.mem_cons.mp z).elim (fun z => c z.symm) d)]
theorem put_trueK {ks : List Nat} {n : Nat} (h : n ∉ ks) : putK (trueK ks) (Sum.inl (n : Int)) (.bl true) = trueK (ks ++ [n]) := by
  rw [putK_new _ (by rw [val_trueK, if_neg h])]
  unfold trueK
  rw [List.map_append]
  rfl
theorem rch_lt {ls : List Ld} {k : Nat} (h : RchL ls k) : k < ls.length := by
  cases h with
  | zero h => exact h
  | step _ _ _ h => exact h
theorem next_two (k : Nat) (x : Ld) : (nextL k x).length ≤ 2 := by
  unfold nextL
  rw [List.length_append]
  have h1 : (goL x).toList.length ≤ 1 := by cases goL x <;> simp
  have h2 : (if (haltsL x || ajL x) = true then [] else [k + 1]).length ≤ 1 := by split <;> simp
  omega
theorem nodup_few {n : Nat} {l : List Nat} (hd : l.Nodup) (h : ∀ x ∈ l, x < n) : l.length ≤ n := by
  refine Nat.le_of_not_lt fun c => ?_
  obtain ⟨i, j, h1, h2, h3⟩ := pigeon n (fun i => l.getD i 0) fun i hi => by
    have hl : i < l.length := by omega
    show l.getD i 0 < n
    rw [List.getD_eq_getElem?_getD, List.getElem?_eq_getElem hl]
    exact h _ (List.getElem_mem hl)
  have hi : i < l.length := by omega
  have hj : j < l.length := by omega
  have h3 : l.getD i 0 = l.getD j 0 := h3
  rw [List.getD_eq_getElem?_getD, List.getElem?_eq_getElem hi, List.getD_eq_getElem?_getD, List.getElem?_eq_getElem hj] at h3
  exact absurd h3 (List.pairwise_iff_getElem.mp hd i j hi hj h1)
structure RInv (ls : List Ld) (ks as : List Nat) : Prop where
  nd : ks.Nodup
  lt : ∀ k ∈ ks, RchL ls k
  ah : ∀ j ∈ as, j < ls.length → RchL ls j
  st : 0 < ls.length → 0 ∈ ks ∨ 0 ∈ as
  cl : ∀ k ∈ ks, ∀ x, ls[k]? = some x → ∀ j ∈ nextL k x, j < ls.length → j ∈ ks ∨ j ∈ as
  few : as.length ≤ 1 + 2 * ks.length
theorem RInv.len {ls : List Ld} {ks as : List Nat} (h : RInv ls ks as) : ks.length ≤ ls.length := nodup_few h.nd fun k hk => rch_lt (h.lt k hk)
theorem RInv.start (ls : List Ld) : RInv ls [] [0] :=
  ⟨List.nodup_nil, (fun _ h => nomatch h), fun j h hl => (by rw [List.mem_singleton.mp h] at hl ⊢; exact .zero hl), fun _ => .inr (List.mem_singleton.mpr rfl), (fun _ h => nomatch h), (by simp)⟩
theorem RInv.skip {ls : List Ld} {ks as : List Nat} {n : Nat} (h : RInv ls ks (as ++ [n])) (c : ls.length ≤ n ∨ n ∈ ks) : RInv ls ks as where
  nd := h.nd
  lt := h.lt
  ah := fun j hj => h.ah j (List.mem_append.mpr (.inl hj))
  st := fun hl => by
    rcases h.st hl with z | z
    · exact .inl z
    · rcases List.mem_append.mp z with z | z
      · exact .inr z
      · have z := List.mem_singleton.mp z
        rcases c with c | c
        · omega
        · exact .inl (by rw [z]; exact c)
  cl := fun k hk x hx j hj hl => by
    rcases h.cl k hk x hx j hj hl with z | z
    · exact .inl z
    · rcases List.mem_append.mp z with z | z
      · exact .inr z
      · have z := List.mem_singleton.mp z
        rcases c with c | c
        · omega
        · exact .inl (by rw [z]; exact c)
  few := by
    have := h.few
    rw [List.length_append, List.length_singleton] at this
    omega
theorem RInv.put {ls : List Ld} {ks as : List Nat} {n : Nat} {x : Ld} (h : RInv ls ks (as ++ [n])) (hx : ls[n]? = some x) (c : n ∉ ks) : RInv ls (ks ++ [n]) (as ++ nextL n x) := by
  have hn := (List.getElem?_eq_some_iff.mp hx).1
  have rn : RchL ls n := h.ah n (List.mem_append.mpr (.inr (List.mem_singleton.mpr rfl))) hn
  have mv : ∀ j, j ∈ ks ∨ j ∈ as ++ [n] → j ∈ ks ++ [n] ∨ j ∈ as ++ nextL n x := fun j hj => by
    rcases hj with z | z
    · exact .inl (List.mem_append.mpr (.inl z))
    · rcases List.mem_append.mp z with z | z
      · exact .inr (List.mem_append.mpr (.inl z))
      · exact .inl (List.mem_append.mpr (.inr z))
  refine ⟨?_, fun k hk => ?_, fun j hj hl => ?_, fun hl => mv 0 (h.st hl), fun k hk y hy j hj hl => ?_, ?_⟩
  · refine List.nodup_append.mpr ⟨h.nd, List.nodup_cons.mpr ⟨fun z => (by cases z), List.nodup_nil⟩, fun a ha b hb e => c ?_⟩
    rw [← List.mem_singleton.mp hb, ← e]
    exact ha
  · rcases List.mem_append.mp hk with z | z
    · exact h.lt k z
    · rw [List.mem_singleton.mp z]
      exact rn
  · rcases List.mem_append.mp hj with z | z
    · exact h.ah j (List.mem_append.mpr (.inl z)) hl
    · exact .step rn hx z hl
  · rcases List.mem_append.mp hk with z | z
    · exact mv j (h.cl k z y hy j hj hl)
    · rw [List.mem_singleton.mp z] at hy hj
      rw [hx] at hy
      rw [← Option.some.inj hy] at hj
      exact .inr (List.mem_append.mpr (.inr hj))
  · have h1 := h.few
    have h2 := next_two n x
    rw [List.length_append] at h1 ⊢
    rw [List.length_append]
    simp only [List.length_singleton] at h1 ⊢
    omega
theorem RInv.all {ls : List Ld} {ks : List Nat} (h : RInv ls ks []) (k : Nat) : k ∈ ks ↔ RchL ls k := by
  refine ⟨h.lt k, fun r => ?_⟩
  induction r with
  | zero hl => exact (h.st hl).elim id fun z => by cases z
  | step _ hx hj hl ih => exact (h.cl _ ih _ hx _ hj hl).elim id fun z => by cases z
def muR (n : Nat) (R A : Addr) (H : Hp) : Nat := match H R, H A with
  | some (.dK kvs), some (.lst l) => 3 * (n - kvs.length) + l.length
  | _, _ => 0
theorem muR_is {n : Nat} {R A : Addr} {H : Hp} {ks as : List Nat} (h1 : H R = some (.dK (trueK ks))) (h2 : H A = some (.lst (vNat as))) : muR n R A H = 3 * (n - ks.length) + as.length := by
  unfold muR
  rw [h1, h2]
  show 3 * (n - (trueK ks).length) + (vNat as).length = _
  rw [show (trueK ks).length = ks.length from List.length_map .., show (vNat as).length = as.length from List.length_map ..]
section
variable {P : Program} {w : World} {K : PySem.W.Frag} {mg : Str → Option Value} {base : Heap} {f : Addr} {fd : FuncData} {dvs : List V}
def spReach (K : PySem.W.Frag) : Sp := fun vs H Q _ => ∃ (a : Addr) (rs : List V) (ls : List Ld), vs = [.ref a] ∧ SqL K H a rs ∧ Lst K H rs ls ∧ ∀ R ks H', Same H H' → H R = none → H' R = some (.dK (trueK ks)) → (∀ k, k ∈ ks ↔ RchL ls k) → Q (.ref R) H'
abbrev N_numbers_reached : List Str := ["deeds", "reached", "ahead", "number"]
theorem sc_numbers_reached : FnScope ["deeds", "reached", "ahead", "number"] ["deeds"] (defScope s_numbers_reached) := ⟨rfl, rfl, rfl, by decide +kernel, rfl, by decide +kernel, by decide +kernel⟩
theorem ok_reach (F : FnP K "numbers_reached" s_numbers_reached dvs f fd) (k_numbers_behind : KnNext P w K mg base) (g_len : mg "len" = none) : FnOk P w K mg base CX0 3 f fd ["deeds"] (spReach K) := by
  refine F.ok sc_numbers_reached (fun vs H Q E h => ?_) (fun cdv A outer s H vs Q E hr h => ?_)
  · obtain ⟨a, rs, ls, rfl, _⟩ := h
    rfl
  · obtain ⟨a, rs, ls, rfl, hS, hL, q⟩ := h
    refine ⟨_, PSs.nox (pss_cons (ps_set (i := 1) sc_numbers_reached.nd rfl (Or.inl rfl) pe_dnewK)
      (pss_cons (ps_set (i := 2) sc_numbers_reached.nd rfl (Or.inl rfl) (pe_lst (pa_cons pe_int pa_nil)))
      (pss_cons (ps_while PassesOwn.never (pt_cmpR op_gt (pe_callB call_len rfl g_len boot_len (pa_cons (pv 2) pa_nil)) pe_int (nomark _)) (pss_cons (ps_set (i := 3) sc_numbers_reached.nd rfl (Or.inl rfl) (pe_bm0 PySem.F.plainAttrs_list PySem.F.slot_list_pop PySem.F.type_list_pop mt_pop (pv 2)))
      (pss_one (ps_if (PW.pt (pw_and (pt_cmpR op_lt (pv 3) (pe_callB call_len rfl g_len boot_len (pa_cons (pv 0) pa_nil)) (nomark _)) (pw_and1 (pt_cmpR (op_notInDk (hu_of hr)) (pv 3) (pv 1) rfl)))) (pss_cons (ps_asg pe_bl (pg_sub (pv 1) (pv 3) (set_dict (hu_of hr))))
      (pss_one (ps_expr (pe_bm PySem.F.plainAttrs_list PySem.F.slot_list_extend PySem.F.type_list_extend mt_extend (pv 2) (pa_cons (pk k_numbers_behind hr (by decide) rfl pass0 (pa_cons (pe_ix ix_list (pv 0) (pv 3) (fun _ _ => rfl)) (pa_cons (pv 3) pa_nil))) pa_nil))))) pss_nil))))
      (pss_one (ps_ret (pv 1)))))), ?_⟩
    refine fun R hR => ?_
    have hRn : H R = none := hR
    have s1 : Same H (upd H R (.dK [])) := Same.add hR
    have e1 : (upd H R (.dK [])) R = some (.dK []) := upd_same
    generalize upd H R (.dK []) = H1 at s1 e1 ⊢
    refine ⟨line5 (by simp), fun A hA => ?_⟩
    have hAn : H A = none := Same.none s1 hA
    have nRA : R ≠ A := ne_of_none e1 hA
    have s2 : Same H1 (upd H1 A (.lst [V.int 0])) := Same.add hA
    have e2 : (upd H1 A (.lst [V.int 0])) A = some (.lst [V.int 0]) := upd_same
    generalize upd H1 A (.lst [V.int 0]) = H2 at s2 e2 ⊢
    have hrl := hL.len
    have hfew := hL.few
    refine while_by (fun σ G => ∃ (ks as : List Nat) (v3 : Option V), σ = [some (.ref a), some (.ref R), some (.ref A), v3] ∧ Same H G ∧ G R = some (.dK (trueK ks)) ∧ G A = some (.lst (vNat as)) ∧ RInv ls ks as) (fun _ G => muR ls.length R A G)
      ⟨[], [0], none, rfl, Same.trans s1 s2, s2 _ _ e1, e2, RInv.start ls⟩ ?_ (fun σ G R R' m h => ?_)
    · rintro σ G ⟨ks, as, v3, rfl, sG, gR, gA, iv⟩
      have hkl := iv.len
      have hal := iv.few
      refine ⟨_, rfl, _, _, rfl, .inl ⟨_, SqL.of gA, rfl⟩, _, _, rfl, rfl, _, rfl, ?_⟩
      have mu0 := muR_is (n := ls.length) gR gA
      show if decide ((((vNat as).length : Nat) : Int) > 0) = true then _ else _
      rw [show (vNat as).length = as.length from List.length_map ..]
      by_cases c : as = []
      · subst c
        rw [decide_eq_false (by simp)]
        exact iteF ⟨_, rfl, q R ks G sG hRn gR iv.all⟩
      · obtain ⟨as, n, rfl⟩ : ∃ as' n, as = as' ++ [n] := ⟨as.dropLast, as.getLast c, (List.dropLast_concat_getLast c).symm⟩
        rw [decide_eq_true (by rw [List.length_append, List.length_singleton]; omega)]
        have vl : vNat (as ++ [n]) = vNat as ++ [V.int (n : Nat)] := by unfold vNat; rw [List.map_append]; rfl
        rw [vl] at gA
        rw [List.length_append, List.length_singleton] at hal mu0
        refine iteT ⟨_, rfl, .inl ⟨rfl, _, SqL.of gA⟩, A, _, V.int (n : Nat), rfl, rfl, gA, by simp, ?_⟩
        rw [List.dropLast_concat]
        have sG1 : Same H (upd G A (.lst (vNat as))) := Same.mut sG hAn
        have g1R : (upd G A (.lst (vNat as))) R = some (.dK (trueK ks)) := by rw [upd_ne nRA]; exact gR
        have g1A : (upd G A (.lst (vNat as))) A = some (.lst (vNat as)) := upd_same
        generalize upd G A (.lst (vNat as)) = G1 at sG1 g1R g1A ⊢
        have stay : ls.length ≤ n ∨ n ∈ ks → ∀ v3 : Option V, (∃ (ks2 as2 : List Nat) (v : Option V), [some (V.ref a), some (V.ref R), some (V.ref A), v3] = [some (.ref a), some (.ref R), some (.ref A), v] ∧ Same H G1 ∧ G1 R = some (.dK (trueK ks2)) ∧ G1 A = some (.lst (vNat as2)) ∧ RInv ls ks2 as2) ∧ muR ls.length R A G1 < muR ls.length R A G := fun hc v3 => by
          refine ⟨⟨ks, as, v3, rfl, sG1, g1R, g1A, iv.skip hc⟩, ?_⟩
          rw [muR_is g1R g1A, mu0]
          omega
        refine ⟨_, rfl, _, rfl, _, _, rfl, .inl ⟨_, sG1.seq hS, rfl⟩, _, _, rfl, rfl, _, rfl, ?_⟩
        show if decide (((n : Nat) : Int) < ((rs.length : Nat) : Int)) = true then _ else _
        by_cases cl : n < ls.length
        · rw [decide_eq_true (by omega)]
          refine iteT ⟨_, rfl, _, rfl, R, _, rfl, DGet.k (k := Sum.inl (n : Int)) g1R, _, rfl, ?_⟩
          rw [val_trueK]
          by_cases ck : n ∈ ks
          · rw [if_pos ck]
            exact iteF (stay (.inr ck) _)
          · rw [if_neg ck]
            have hx := List.getElem?_eq_getElem cl
            generalize ls[n] = x at hx
            obtain ⟨p, h1, h2, h3⟩ := hL.at_ hx
            have iv2 := iv.put hx ck
            have hn2 := next_two n x
            have hkl2 := iv2.len
            rw [List.length_append, List.length_singleton] at hkl2
            refine iteT ⟨_, rfl, _, rfl, R, _, rfl, DPut.k (k := Sum.inl (n : Int)) g1R (line_lt (by unfold trueK; rw [List.length_map]; omega)), ?_⟩
            rw [put_trueK ck]
            have sG2 : Same H (upd G1 R (.dK (trueK (ks ++ [n])))) := Same.mut sG1 hRn
            have g2R : (upd G1 R (.dK (trueK (ks ++ [n])))) R = some (.dK (trueK (ks ++ [n]))) := upd_same
            have g2A : (upd G1 R (.dK (trueK (ks ++ [n])))) A = some (.lst (vNat as)) := by rw [upd_ne (Ne.symm nRA)]; exact g1A
            generalize upd G1 R (.dK (trueK (ks ++ [n]))) = G2 at sG2 g2R g2A ⊢
            refine ⟨_, rfl, .inl ⟨rfl, _, SqL.of g2A⟩, _, rfl, _, rfl, a, _, _, _, rfl, rfl, sG2.seq hS, atI_nat h1, _, rfl, p, x, n, rfl, Same.tup sG2 h2, h3, fun D G3 s3 nD hD => ?_⟩
            have sG3 := Same.trans sG2 s3
            have g3R := s3 _ _ g2R
            have g3A := s3 _ _ g2A
            refine ⟨A, D, _, _, rfl, rfl, g3A, hD, line5 (by unfold vNat; rw [List.length_map, List.length_map]; omega), ?_⟩
            have e : vNat as ++ vNat (nextL n x) = vNat (as ++ nextL n x) := by unfold vNat; rw [List.map_append]
            rw [e]
            have g4A : (upd G3 A (.lst (vNat (as ++ nextL n x)))) A = some (.lst (vNat (as ++ nextL n x))) := upd_same
            have g4R : (upd G3 A (.lst (vNat (as ++ nextL n x)))) R = some (.dK (trueK (ks ++ [n]))) := by rw [upd_ne nRA]; exact g3R
            refine ⟨⟨ks ++ [n], as ++ nextL n x, _, rfl, Same.mut sG3 hAn, g4R, g4A, iv2⟩, ?_⟩
            rw [muR_is g4R g4A, mu0, List.length_append, List.length_append, List.length_singleton]
            omega
        · rw [decide_eq_false (by omega)]
          exact iteF (stay (.inl (by omega)) _)
    · obtain ⟨v, e, x, n, e2, hl, i, j, e3, e4, k, e5, r⟩ := h
      exact ⟨v, e, x, n, e2, hl, i, j, e3, e4, k, e5, m _ _ r⟩
abbrev KnReach (P : Program) (w : World) (K : PySem.W.Frag) (mg : Str → Option Value) (base : Heap) : Prop := Kn P w K mg base CX0 3 "numbers_reached" ["deeds"] [] (spReach K)
end
end Bm
set_option maxHeartbeats 800000
namespace Bm
open PySem PySem.Spec PyProof.Rows L2
theorem tup_putL {K : PySem.W.Frag} {H : Hp} {D a : Addr} {rs xs : List V} {o : HO} (hD : H D = some (.lst rs)) (h : SqT K H a xs) : SqT K (upd H D o) a xs := by
  rcases h with (h | ⟨o2, h⟩) | h
  · have n : a ≠ D := fun z => by rw [z, hD] at h; cases h
    exact .inl (.inl (by rw [upd_ne n]; exact h))
  · have n : a ≠ D := fun z => by rw [z, hD] at h; cases h
    exact .inl (.inr ⟨o2, by rw [upd_ne n]; exact h⟩)
  · exact .inr h
theorem keepL_yes {ls : List Ld} {k : Nat} {x : Ld} (h : RchL ls k) : keepL ls k x = !idleL k x := by
  unfold keepL
  simp [h]
theorem keepL_no {ls : List Ld} {k : Nat} {x : Ld} (h : ¬ RchL ls k) : keepL ls k x = false := by
  unfold keepL
  simp [h]
theorem short_mem {ls : List Ld} {P : De → Prop} (h : ∀ x ∈ ls, P x.1) : ∀ x ∈ shortL ls, P x.1 := fun y hy => by
  unfold shortL at hy
  obtain ⟨p, hp, rfl⟩ := List.mem_map.mp hy
  have hp := (List.of_mem_zip (List.mem_filter.mp hp).1).1
  have e1 : (movedL (behL ls) p.1).1 = p.1.1 := by
    unfold movedL
    split <;> rfl
  rw [e1]
  exact h _ hp
/-- behind, so far -/
noncomputable def behs (ls : List Ld) (n : Nat) : List Nat := (List.range (n + 1)).map (behL ls)
theorem beh_next {ls : List Ld} {i : Nat} {b : Bool} (h : (keeps ls)[i]? = some b) : behL ls (i + 1) = behL ls i + if b = true then 1 else 0 := by
  unfold behL tru
  rw [take_succ' h, List.countP_append]
  cases b <;> rfl
theorem moved_behs {ls : List Ld} {x : Ld} (h : x.1.goes = true → x.2 ≤ ls.length) : movedL (fun j => (behs ls ls.length).getD j 0) x = movedL (behL ls) x := by
  unfold movedL
  by_cases c : x.1.goes = true
  · rw [if_pos c, if_pos c]
    have := h c
    unfold behs
    dsimp only
    rw [List.getD_eq_getElem?_getD, List.getElem?_map, List.getElem?_range (by omega)]
    rfl
  · rw [if_neg c, if_neg c]
noncomputable def shortI (ls : List Ld) (i : Nat) : List Ld := (((ls.zip (keeps ls)).take i).filter (·.2)).map fun p => movedL (behL ls) p.1
theorem shortI_next {ls : List Ld} {i : Nat} {x : Ld} {b : Bool} (hx : ls[i]? = some x) (hb : (keeps ls)[i]? = some b) : shortI ls (i + 1) = shortI ls i ++ if b = true then [movedL (behL ls) x] else [] := by
  have e : (ls.zip (keeps ls))[i]? = some (x, b) := List.getElem?_zip_eq_some.mpr ⟨hx, hb⟩
  unfold shortI
  rw [take_succ' e, List.filter_append, List.map_append]
  cases b <;> rfl
theorem shortI_all (ls : List Ld) : shortI ls ls.length = shortL ls := by
  unfold shortI shortL
  rw [List.take_of_length_le (by rw [List.length_zip, keeps_len]; omega)]
section
variable {P : Program} {w : World} {K : PySem.W.Frag} {mg : Str → Option Value} {base : Heap} {f : Addr} {fd : FuncData} {dvs : List V}
def spShort (K : PySem.W.Frag) : Sp := fun vs H Q _ => ∃ (a : Addr) (rs : List V) (ls : List Ld), vs = [.ref a] ∧ SqL K H a rs ∧ Lst K H rs ls ∧ ∀ D rs' H', Same H H' → H D = none → H' D = some (.lst rs') → Lst K H' rs' (shortL ls) → Q (.ref D) H'
abbrev N_shortened : List Str := ["deeds", "reached", "kept", "behind", "keep", "number", "deed"]
theorem sc_shortened : FnScope ["deeds", "reached", "kept", "behind", "keep", "number", "deed"] ["deeds"] (defScope s_shortened) := ⟨rfl, rfl, rfl, by decide +kernel, rfl, by decide +kernel, by decide +kernel⟩
theorem ok_short (F : FnP K "shortened" s_shortened dvs f fd) (k_numbers_reached : KnReach P w K mg base) (k_is_idle : KnIdle P w K mg base) (k_moved : KnMoved P w K mg base) (g_enumerate : mg "enumerate" = none) (g_zip : mg "zip" = none) : FnOk P w K mg base CX0 4 f fd ["deeds"] (spShort K) := by
  refine F.ok sc_shortened (fun vs H Q E h => ?_) (fun cdv A outer s H vs Q E hr h => ?_)
  · obtain ⟨a, rs, ls, rfl, _⟩ := h
    rfl
  · obtain ⟨a, rs, ls, rfl, hS, hL, q⟩ := h
    refine ⟨_, PSs.nox (pss_cons (ps_set (i := 1) sc_shortened.nd rfl (Or.inr rfl) (pk k_numbers_reached hr (by decide) rfl pass0 (pa_cons (pv 0) pa_nil)))
      (pss_cons (ps_setLc (i := 2) (own := [("number", 5), ("deed", 6)]) (g := gTup K 2 (gCons (gName 5) (gCons (gName 6) (gNil)))) rfl sc_shortened.nd rfl rfl (sw_true rfl rfl rfl (by decide +kernel)) (pi_enum rfl g_enumerate (pa_cons (pv 0) pa_nil)) (blkOk_by (own := [("number", 5), ("deed", 6)]) (N := N_shortened) (sc := defScope s_shortened) (by decide +kernel)) (fun _ _ _ _ _ => (pg_tup rfl (pgs_cons (pg_name (i := 5) sc_shortened.nd rfl (Or.inl rfl)) (pgs_cons (pg_name (i := 6) sc_shortened.nd rfl (Or.inl rfl)) pgs_nil)))) (fun _ _ _ _ _ => pts_nil) (fun _ _ _ _ _ => (pe_and (pe_cmpR (op_inDk (hu_of hr)) (pv 5) (pv 1) rfl) (pe_one (pe_not (pk k_is_idle hr (by decide) rfl pass0 (pa_cons (pv 6) (pa_cons (pv 5) pa_nil))))))))
      (pss_cons (ps_set (i := 3) sc_shortened.nd rfl (Or.inr rfl) (pe_lst (pa_cons pe_int pa_nil)))
      (pss_cons (ps_for PassesOwn.never rfl (pi_list (pv 2)) (pg_name (i := 4) sc_shortened.nd rfl (Or.inl rfl))
      (pss_one (ps_expr (pe_bm PySem.F.plainAttrs_list PySem.F.slot_list_append PySem.F.type_list_append mt_append (pv 3) (pa_cons (pe_op op_add (pe_ix ix_list (pv 3) (pe_un un_neg pe_int) (fun _ _ => rfl)) (pe_ifExp (pt_val (pv 4)) pe_int pe_int)) pa_nil)))))
      (pss_one (ps_ret (pe_lc (own := [("keep", 4), ("deed", 6)]) (g := gTup K 2 (gCons (gName 6) (gCons (gName 4) (gNil)))) rfl sc_shortened.nd (pi_zip rfl g_zip (pa_cons (pv 0) (pa_cons (pv 2) pa_nil))) (blkOk_by (own := [("keep", 4), ("deed", 6)]) (N := N_shortened) (sc := defScope s_shortened) (by decide +kernel)) (fun _ _ _ _ _ => (pg_tup rfl (pgs_cons (pg_name (i := 6) sc_shortened.nd rfl (Or.inl rfl)) (pgs_cons (pg_name (i := 4) sc_shortened.nd rfl (Or.inl rfl)) pgs_nil)))) (fun _ _ _ _ _ => (pts_one (pt_val (pv 4)))) (fun _ _ _ _ _ => (pk k_moved hr (by decide) rfl pass0 (pa_cons (pv 6) (pa_cons (pv 3) pa_nil))))))))))), ?_⟩
    have hrl := hL.len
    have hfew := hL.few
    have hkl := keeps_len ls
    refine ⟨_, rfl, a, rs, ls, rfl, hS, hL, fun R ks H1 s1 hRn hR hks => ?_⟩
    refine ⟨_, rfl, a, _, rfl, s1.seq hS, fun D hD => ?_⟩
    have hDn : H D = none := Same.none s1 hD
    refine lc_it (walk_enum (xs := rs)) (fun i G => Same H1 G ∧ G D = some (.lst (((keeps ls).take i).map V.bl))) ⟨Same.add hD, upd_same⟩ (fun _ _ _ h => (Same.trans s1 h.1).seq hS) ?_ ?_
    · rintro i x G G' hi ⟨g1, g2⟩ ⟨T, y, z, rfl, hT, rfl, hy, hz⟩
      obtain rfl : V.int (i : Nat) = y := Option.some.inj hy
      have hil : i < ls.length := by omega
      have hx := List.getElem?_eq_getElem hil
      generalize ls[i] = x at hx
      obtain ⟨p, h1, h2, h3⟩ := hL.at_ hx
      obtain rfl : V.ref p = z := Option.some.inj (h1.symm.trans hz)
      have sT : Same G (upd G T (.tup [V.int (i : Nat), V.ref p])) := Same.add hT
      have eT : (upd G T (.tup [V.int (i : Nat), V.ref p])) T = some (.tup [V.int (i : Nat), V.ref p]) := upd_same
      generalize upd G T (.tup [V.int (i : Nat), V.ref p]) = G3 at sT eT ⊢
      have g3 := Same.trans g1 sT
      have g03 := Same.trans s1 g3
      have kD := sT _ _ g2
      have kR := g3 _ _ hR
      have hkeep : (keeps ls)[i]? = some (keepL ls i x) := by rw [keeps_at, hx]; rfl
      have put_ : ∀ (b : Bool) (G4 : Hp), b = keepL ls i x → Same H1 G4 → G4 D = some (.lst (((keeps ls).take i).map V.bl)) → ∃ acc, G4 D = some (.lst acc) ∧ acc.length < sizeLine ∧ Same H1 (upd G4 D (.lst (acc ++ [V.bl b]))) ∧ upd G4 D (.lst (acc ++ [V.bl b])) D = some (.lst (((keeps ls).take (i + 1)).map V.bl)) := fun b G4 hb s4 h4 => by
        refine ⟨_, h4, line_lt (by rw [List.length_map, List.length_take]; omega), Same.mut s4 hD, ?_⟩
        rw [upd_same, take_succ' hkeep, List.map_append, hb]
        rfl
      refine ⟨T, _, rfl, SqT.of eT, rfl, _, _, rfl, _, _, rfl, rfl, rfl, ?_⟩
      refine ⟨_, rfl, _, rfl, R, _, rfl, DGet.k (k := Sum.inl (i : Int)) kR, _, rfl, ?_⟩
      rw [val_trueK]
      by_cases c : i ∈ ks
      · rw [if_pos c]
        have hch := (hks i).mp c
        refine iteT ⟨_, rfl, _, rfl, p, x, i, rfl, Same.tup g03 h2, h3, fun G4 s4 => ⟨_, rfl, ?_⟩⟩
        refine put_ _ G4 ?_ (Same.trans g3 s4) (s4 _ _ kD)
        rw [keepL_yes hch]
      · rw [if_neg c]
        have hch : ¬ RchL ls i := fun z => c ((hks i).mpr z)
        refine iteF (put_ _ G3 ?_ g3 kD)
        rw [keepL_no hch]
    · rintro G ⟨g1, g2⟩
      rw [show rs.length = (keeps ls).length by omega, List.take_length] at g2
      have s01 := Same.trans s1 g1
      refine ⟨line5 (by simp), fun B hB => ?_⟩
      have hBn : H B = none := Same.none s01 hB
      have sB : Same G (upd G B (.lst [V.int 0])) := Same.add hB
      have eB : (upd G B (.lst [V.int 0])) B = some (.lst [V.int 0]) := upd_same
      generalize upd G B (.lst [V.int 0]) = G1 at sB eB ⊢
      have nDB : D ≠ B := ne_of_none g2 hB
      have s02 := Same.trans s01 sB
      have kD := sB _ _ g2
      have blen : ((keeps ls).map V.bl).length = ls.length := by rw [List.length_map, hkl]
      refine ⟨_, rfl, D, rfl, ⟨_, SqL.of kD⟩, for_list (K := K) (a := D) (xs := (keeps ls).map V.bl) (fun i σ G2 => ∃ v4 : Option V, σ = [some (.ref a), some (.ref R), some (.ref D), some (.ref B), v4, none, none] ∧ Same H G2 ∧ G2 D = some (.lst ((keeps ls).map V.bl)) ∧ G2 B = some (.lst (vNat (behs ls i))))
        ⟨none, rfl, s02, kD, eB⟩ (fun i σ G2 _ h => by obtain ⟨_, _, _, h, _⟩ := h; exact SqL.of h) ?_ ?_⟩
      · rintro i x σ G2 hi ⟨v4, rfl, s2, d2, b2⟩
        have hi' : ((keeps ls).map V.bl)[i]? = some x := hi
        rw [List.getElem?_map] at hi'
        obtain ⟨b, hb, rfl⟩ := Option.map_eq_some_iff.mp hi'
        have hil := (List.getElem?_eq_some_iff.mp hb).1
        have bl : (behs ls i).length = i + 1 := by unfold behs; rw [List.length_map, List.length_range]
        have hlast : atI (vNat (behs ls i)) (-1) = some (.int (behL ls i : Nat)) := by
          unfold vNat behs
          rw [List.range_succ, List.map_append, List.map_append]
          exact atI_last _ _
        refine ⟨_, rfl, .inl ⟨rfl, _, SqL.of b2⟩, _, rfl, _, rfl, B, _, _, _, rfl, rfl, SqL.of b2, hlast, ⟨_, rfl, _, rfl, ?_⟩⟩
        have fin_ : ∀ n : Nat, behL ls (i + 1) = behL ls i + n → ∃ l xs z, V.ref B = V.ref l ∧ [V.int ((behL ls i : Nat) + (n : Int))] = [z] ∧ G2 l = some (.lst xs) ∧ xs.length < sizeLine ∧ ∃ v4' : Option V, ([some (V.ref a), some (V.ref R), some (V.ref D), some (V.ref B), some (V.bl b), none, none] : List (Option V)) = [some (.ref a), some (.ref R), some (.ref D), some (.ref B), v4', none, none] ∧ Same H (upd G2 l (.lst (xs ++ [z]))) ∧ (upd G2 l (.lst (xs ++ [z]))) D = some (.lst ((keeps ls).map V.bl)) ∧ (upd G2 l (.lst (xs ++ [z]))) B = some (.lst (vNat (behs ls (i + 1)))) := fun n hn => by
          refine ⟨B, _, _, rfl, rfl, b2, line_lt (by unfold vNat; rw [List.length_map, bl]; omega), _, rfl, Same.mut s2 hBn, by rw [upd_ne nDB]; exact d2, ?_⟩
          rw [upd_same]
          unfold vNat behs
          rw [List.range_succ (n := i + 1), List.map_append, List.map_append, List.map_cons, List.map_cons, hn]
          simp
        rw [beh_next hb] at fin_
        cases b with
        | true => exact iteT ⟨_, _, rfl, rfl, fin_ 1 rfl⟩
        | false => exact iteF ⟨_, _, rfl, rfl, fin_ 0 rfl⟩
      · rintro σ G2 ⟨v4, rfl, s2, d2, b2⟩
        rw [blen] at b2
        refine ⟨_, rfl, _, rfl, a, D, rs, _, rfl, s2.seq hS, SqL.of d2, fun D2 hD2 => ?_⟩
        have hD2n : H D2 = none := Same.none s2 hD2
        refine lc_it (walk_zip (xs := rs) (ys := (keeps ls).map V.bl) (n := ls.length) (by rw [blen, hrl]; omega)) (fun i G => Same G2 G ∧ ∃ rs2, G D2 = some (.lst rs2) ∧ TupsV K G rs2 ((shortI ls i).map itemV)) ⟨Same.add hD2, [], upd_same, .nil⟩ (fun _ _ _ h => ⟨(Same.trans s2 h.1).seq hS, SqL.of (h.1 _ _ d2)⟩) ?_ ?_
        · rintro i x G G' hi ⟨g1, rs2, g2, g3⟩ ⟨T, y, z, rfl, hT, rfl, hy, hz⟩
          have hx := List.getElem?_eq_getElem hi
          generalize ls[i] = x at hx
          obtain ⟨p, h1, h2, h3⟩ := hL.at_ hx
          obtain rfl : V.ref p = y := Option.some.inj (h1.symm.trans hy)
          have hz : ((keeps ls).map V.bl)[i]? = some z := hz
          rw [List.getElem?_map] at hz
          obtain ⟨b, hb, rfl⟩ := Option.map_eq_some_iff.mp hz
          have sT : Same G (upd G T (.tup [V.ref p, V.bl b])) := Same.add hT
          have eT : (upd G T (.tup [V.ref p, V.bl b])) T = some (.tup [V.ref p, V.bl b]) := upd_same
          generalize upd G T (.tup [V.ref p, V.bl b]) = G3 at sT eT ⊢
          have k1 := Same.trans g1 sT
          have k2 := sT _ _ g2
          have k3 := g3.map (fun a xs => Same.tup (H' := G3) (a := a) (xs := xs) sT)
          have s23 := Same.trans s2 k1
          have hn := shortI_next hx hb
          refine ⟨T, _, rfl, SqT.of eT, rfl, _, _, rfl, _, _, rfl, rfl, rfl, ?_⟩
          refine ⟨_, rfl, _, rfl, ?_⟩
          cases b with
          | false =>
            refine iteF ⟨k1, rs2, k2, ?_⟩
            rw [hn, if_neg (by decide), List.append_nil]
            exact k3
          | true =>
            refine iteT ⟨_, rfl, _, rfl, p, B, x, _, rfl, Same.tup s23 h2, h3, SqL.of (k1 _ _ b2), ?_, fun t G4 s4 ht => ?_⟩
            · intro hg
              have := hL.ok x (List.mem_of_getElem? hx) hg
              unfold behs
              rw [List.length_map, List.length_range]
              omega
            · rw [moved_behs (fun hg => hL.ok x (List.mem_of_getElem? hx) hg)] at ht
              have k4 := s4 _ _ k2
              refine ⟨rs2, k4, line_lt ?_, Same.mut (Same.trans k1 s4) hD2, rs2 ++ [.ref t], upd_same, ?_⟩
              · rw [k3.len, List.length_map]
                unfold shortI
                rw [List.length_map]
                have := List.length_filter_le (·.2) ((ls.zip (keeps ls)).take i)
                rw [List.length_take] at this
                omega
              · rw [hn, if_pos rfl, List.map_append]
                exact TupsV.snoc (tup_putL k4 ht) (k3.map fun a xs h => tup_putL k4 (Same.tup s4 h))
        · rintro G ⟨g1, rs2, g2, g3⟩
          rw [shortI_all] at g3
          have hsl := short_le ls
          exact q D2 rs2 G (Same.trans s2 g1) hD2n g2 ⟨g3, short_ok ls, short_mem hL.deeds, by omega⟩
abbrev KnShort (P : Program) (w : World) (K : PySem.W.Frag) (mg : Str → Option Value) (base : Heap) : Prop := Kn P w K mg base CX0 4 "shortened" ["deeds"] [] (spShort K)
end
end Bm
set_option maxHeartbeats 800000
namespace Bm
open PySem PySem.Spec PyProof.Rows L2
theorem while_m {c : TT} {tb : TS} {D : Ends} {σ : L2.St} {H : Hp} (Pv : Nat → L2.St → Hp → Prop) (m0 : Nat) (h0 : Pv m0 σ H)
    (hs : ∀ m σ H, Pv m σ H → c σ H fun b H1 => if b = true then tb { D with nx := fun σ' H' => ∃ m', m' < m ∧ Pv m' σ' H', ct := fun σ' H' => ∃ m', m' < m ∧ Pv m' σ' H', bk := D.nx } σ H1 else D.nx σ H1)
    (mono : ∀ σ H Q Q', (∀ b H1, Q b H1 → Q' b H1) → c σ H Q → c σ H Q') : tWhile c tb D σ H := by
  refine ⟨Pv, ⟨m0, h0⟩, fun m σ H p => ?_⟩
  refine mono σ H _ _ (fun b H1 q => ?_) (hs m σ H p)
  cases b with
  | true => exact ⟨_, fun σ' H' h => h, q⟩
  | false => exact q
theorem item_inj {d : De} {m n : Nat} (hg : d.goes = true) (h : itemV (d, m) = itemV (d, n)) : m = n := by
  have e1 := item_end (x := (d, m)) hg
  rw [h, item_end (x := (d, n)) hg] at e1
  have e2 := V.int.inj (Option.some.inj e1)
  omega
theorem step_rows {ls : List Ld} (ok : OkL ls) (h : (stepL ls).map itemV = ls.map itemV) : stepL ls = ls := by
  have hl : (stepL ls).length = ls.length := by
    have := congrArg List.length h
    rwa [List.length_map, List.length_map] at this
  have e : stepL ls = ledA ls := (short_same (led_ok ok) (by rw [ledA_len]; exact hl)).1
  rw [e] at h ⊢
  refine List.ext_getElem? fun k => ?_
  have hk : ((ledA ls).map itemV)[k]? = (ls.map itemV)[k]? := by rw [h]
  rw [List.getElem?_map, List.getElem?_map, ledA_at] at hk
  rw [ledA_at]
  cases ex : ls[k]? with
  | none => rfl
  | some x =>
    rw [ex] at hk
    have hk : itemV (ledL ls k x) = itemV x := Option.some.inj hk
    show some (ledL ls k x) = some x
    congr 1
    have e1 := led_fst ls k x
    by_cases c : x.1.goes = true
    · obtain ⟨d, n⟩ := x
      generalize ledL ls k (d, n) = y at hk e1
      obtain ⟨d2, n2⟩ := y
      have e1 : d2 = d := e1
      subst e1
      rw [item_inj c hk]
    · unfold ledL
      rw [if_neg c]
theorem rows_numS {ls : List Ld} (h : ∀ x ∈ ls, x.1.ok) : ∀ l ∈ ls.map itemV, l.all numS = true := fun l hl => by
  obtain ⟨x, hx, rfl⟩ := List.mem_map.mp hl
  exact item_numS (h x hx)
section
variable {P : Program} {w : World} {K : PySem.W.Frag} {mg : Str → Option Value} {base : Heap} {f : Addr} {fd : FuncData} {dvs : List V}
theorem Lst.dp {H : Hp} {rs : List V} {ls : List Ld} (h : Lst K H rs ls) : DpAll K H rs ((ls.map itemV).map fun l => .tuple (l.map toD)) :=
  h.tups.dp fun l hl => numS_plains (rows_numS h.deeds l hl)
def spLeaned (K : PySem.W.Frag) : Sp := fun vs H Q _ => ∃ (a : Addr) (rs : List V) (ls : List Ld), vs = [.ref a] ∧ SqL K H a rs ∧ Lst K H rs ls ∧ ∀ D rs' H', Same H H' → H D = none → H' D = some (.lst rs') → Lst K H' rs' (leanL ls) → Q (.ref D) H'
abbrev N_leaned : List Str := ["deeds", "fewer", "before", "number"]
theorem sc_leaned : FnScope ["deeds", "fewer", "before", "number"] ["deeds"] (defScope s_leaned) := ⟨rfl, rfl, rfl, by decide +kernel, rfl, by decide +kernel, by decide +kernel⟩
theorem ok_leaned (F : FnP K "leaned" s_leaned dvs f fd) (k_shortened : Kn P w K mg base CX0 4 "shortened" ["deeds"] [] (spShort K)) (k_led : KnLed P w K mg base) (g_list : mg "list" = none) (g_range : mg "range" = none) (g_len : mg "len" = none) : FnOk P w K mg base CX0 5 f fd ["deeds"] (spLeaned K) := by
  refine F.ok sc_leaned (fun vs H Q E h => ?_) (fun cdv A outer s H vs Q E hr h => ?_)
  · obtain ⟨a, rs, ls, rfl, _⟩ := h
    rfl
  · obtain ⟨a, rs, ls, rfl, hS, hL, q⟩ := h
    refine ⟨_, PSs.nox (pss_cons (ps_set (i := 1) sc_leaned.nd rfl (Or.inl rfl) (pe_callTy call_list_of rfl g_list (by decide +kernel) (pa_cons (pv 0) pa_nil)))
      (pss_one (ps_while PassesOwn.never (pt_val pe_bl) (pss_cons (ps_set (i := 2) sc_leaned.nd rfl (Or.inr rfl) (pv 1))
      (pss_cons (ps_set (i := 1) sc_leaned.nd rfl (Or.inl rfl) (pk k_shortened hr (by decide) rfl pass0 (pa_cons (pe_lc (own := [("number", 3)]) (g := gName 3) rfl sc_leaned.nd (pi_range1 rfl g_range (pa_cons (pe_callB call_len rfl g_len boot_len (pa_cons (pv 2) pa_nil)) pa_nil)) (blkOk_by (own := [("number", 3)]) (N := N_leaned) (sc := defScope s_leaned) (by decide +kernel)) (fun _ _ _ _ _ => (pg_name (i := 3) sc_leaned.nd rfl (Or.inl rfl))) (fun _ _ _ _ _ => pts_nil) (fun _ _ _ _ _ => (pk k_led hr (by decide) rfl pass0 (pa_cons (pv 2) (pa_cons (pv 3) pa_nil))))) pa_nil)))
      (pss_one (ps_if (pt_cmpR (op_eqD hr.units) (pv 1) (pv 2) (nomark _)) (pss_one (ps_ret (pv 1))) pss_nil))))))), ?_⟩
    refine ⟨_, rfl, a, _, rfl, .inl hS, fun F0 hF0 => ?_⟩
    have hF0n : H F0 = none := hF0
    have s1 : Same H (upd H F0 (.lst rs)) := Same.add hF0
    have e1 : (upd H F0 (.lst rs)) F0 = some (.lst rs) := upd_same
    generalize upd H F0 (.lst rs) = H1 at s1 e1 ⊢
    refine while_m (fun m σ G => ∃ (F : Addr) (rs2 : List V) (n : Nat) (v2 v3 : Option V), m = muL (leanN ls n) ∧ σ = [some (.ref a), some (.ref F), v2, v3] ∧ Same H G ∧ H F = none ∧ G F = some (.lst rs2) ∧ Lst K G rs2 (leanN ls n)) _
      ⟨F0, rs, 0, none, none, rfl, rfl, s1, hF0n, e1, hL.same s1⟩ ?_ (fun σ G R R' m h => ?_)
    · rintro m σ G ⟨F, rs2, n, v2, v3, rfl, rfl, sG, hFn, gF, gL⟩
      have hrl := gL.len
      have hfew := gL.few
      generalize el : leanN ls n = l at gL hrl hfew ⊢
      refine ⟨_, rfl, iteT ⟨_, rfl, ?_⟩⟩
      refine ⟨_, rfl, _, _, rfl, .inl ⟨_, SqL.of gF, rfl⟩, _, rfl, by omega, by omega, fun D hD => ?_⟩
      refine lc_it walk_range (fun i G2 => Same G G2 ∧ ∃ rs3, G2 D = some (.lst rs3) ∧ TupsV K G2 rs3 (((ledA l).take i).map itemV)) ⟨Same.add hD, [], upd_same, .nil⟩ (fun _ _ _ _ => trivial) ?_ ?_
      · rintro i x G2 G2' hi ⟨g1, rs3, g2, g3⟩ ⟨rfl, rfl⟩
        have hi : i < l.length := by omega
        have hx := List.getElem?_eq_getElem hi
        generalize l[i] = x at hx
        simp only [Int.zero_add]
        refine ⟨rfl, _, rfl, _, rfl, F, rs2, l, i, x, rfl, SqL.of (g1 _ _ gF), gL.same g1, hx, fun t G4 s4 ht => ?_⟩
        have k4 := s4 _ _ g2
        refine ⟨rs3, k4, line_lt ?_, Same.mut (Same.trans g1 s4) hD, rs3 ++ [.ref t], upd_same, ?_⟩
        · rw [g3.len, List.length_map, List.length_take, ledA_len]
          omega
        · rw [take_succ' (show (ledA l)[i]? = some (ledL l i x) by rw [ledA_at, hx]; rfl), List.map_append]
          exact TupsV.snoc (tup_putL k4 ht) (g3.map fun a xs h => tup_putL k4 (Same.tup s4 h))
      · rintro G2 ⟨g1, rs3, g2, g3⟩
        rw [List.take_of_length_le (by rw [ledA_len]; omega)] at g3
        have ok := gL.ok
        have hl3 : Lst K G2 rs3 (ledA l) := ⟨g3, led_ok ok, fun y hy => ?_, by rw [ledA_len]; exact hfew⟩
        · refine ⟨D, rs3, ledA l, rfl, SqL.of g2, hl3, fun F2 rs4 G3 s3 hF2n hF2 hL4 => ?_⟩
          have s13 := Same.trans g1 s3
          have s03 := Same.trans sG s13
          have gF3 := s13 _ _ gF
          have n1 := rows_numS gL.deeds
          have hL4 : Lst K G3 rs4 (stepL l) := hL4
          have n2 := rows_numS hL4.deeds
          have el2 : leanN ls (n + 1) = stepL l := by rw [← el]; rfl
          refine ⟨_, rfl, _, rfl, rowsD ((stepL l).map itemV), rowsD (l.map itemV), .lst (SqL.of hF2) hL4.dp, .lst (SqL.of gF3) (gL.same s13).dp, rows_shaped n2, rows_shaped n1, _, rfl, ?_⟩
          rw [rows_eqv n2 n1]
          have nF2 : H F2 = none := Same.none (Same.trans sG g1) hF2n
          by_cases c : stepL l = l
          · rw [decide_eq_true (by rw [c])]
            have hst : stepL (leanN ls n) = leanN ls n := by rw [el]; exact c
            have e2 := leanL_of hL.ok hst
            refine iteT ⟨_, rfl, q F2 rs4 G3 s03 nF2 hF2 ?_⟩
            rw [← e2, el, ← c]
            exact hL4
          · rw [decide_eq_false (fun z => c (step_rows ok z))]
            refine iteF ⟨muL (stepL l), mu_less ok c, F2, rs4, n + 1, _, _, by rw [el2], rfl, s03, nF2, hF2, ?_⟩
            rw [el2]
            exact hL4
        · obtain ⟨k, hk⟩ := List.getElem?_of_mem hy
          rw [ledA_at] at hk
          obtain ⟨x, hx, rfl⟩ := Option.map_eq_some_iff.mp hk
          rw [led_fst]
          exact gL.deeds x (List.mem_of_getElem? hx)
    · obtain ⟨c, e, r⟩ := h
      exact ⟨c, e, m _ _ r⟩
abbrev KnLeaned (P : Program) (w : World) (K : PySem.W.Frag) (mg : Str → Option Value) (base : Heap) : Prop := Kn P w K mg base CX0 5 "leaned" ["deeds"] [] (spLeaned K)
end
end Bm
set_option maxHeartbeats 1000000
namespace Bm
open PySem PySem.Spec PyProof.Rows L2
/-! isinstance of a caught error that has things of its own -/
def rIsX (K : PySem.W.Frag) (D a dd : Addr) : List V → Hp → VK → Prop := fun xs H Q => ∃ (c : V) (cv : Value) (b : Bool) (fs : List (Str × V)), xs = [.ref a, c] ∧ (∀ u, RelV c u → u = cv) ∧ PySem.W.kitOne K (.ref D) cv = some b ∧ H dd = some (.xd fs) ∧ Q (.bl b) H
theorem call_isX {X : Cx} {a D dd : Addr} {oe : Obj} {pn : List (Addr × Obj)} (C : ExcC X.K D) (hz : Zc (.ref D) (some dd) oe) (hf : ∃ vs, oe.data = .fields vs) : CallR (X.suite a ((a, oe) :: pn)) (.builtin "isinstance") (rIsX X.K D a dd) := by
  intro pins s σ H xs us Q I r h
  obtain ⟨c, cv, b, fs, rfl, hcv, e, hd, q⟩ := h
  obtain ⟨u1, us1, rfl, rx, r⟩ : ∃ u1 us1, us = u1 :: us1 ∧ RelV (.ref a) u1 ∧ Vals [c] us1 := by
    cases r with
    | cons h1 h2 => exact ⟨_, _, rfl, h1, h2⟩
  obtain ⟨u2, rfl, rt⟩ := r.one
  obtain rfl : u1 = Value.ref a := rx
  obtain rfl := hcv _ rt
  have hget := (I.pin (a, oe) (List.mem_append_left _ List.mem_cons_self)).1
  obtain ⟨mA, ⟨od, es, ep, ho, _⟩, _⟩ : ∃ mA, s.heap.Ns1 dd mA ∧ ∀ f, RelO (fs.lookup f) (mA f) := I.hok dd _ hd
  obtain ⟨vs, hv⟩ := hf
  have J : PySem.W.InstAt s.heap a oe D (some od) := by
    obtain ⟨k1, k2, k3, k4⟩ := oe
    obtain ⟨h1, h2⟩ := hz
    dsimp only at h1 h2 hv
    subst h1 h2 hv
    exact ⟨hget, rfl, rfl, ho⟩
  obtain ⟨cd, hcd, _⟩ := PySem.W.any_some C.hd
  exact PySem.W.kia_one (PySem.W.kitx_exc (by rw [hcd]; rfl) C.hg C.hk C.hs C.ha C.hn C.ht C.hm) I.kIn J e (fun z => nomatch z) fun tk => ⟨.bl b, H, I.kept (t' := tk) fun _ _ z => z, rfl, q⟩
/-! raising them -/
/-- an error of one number, as a caller knows it -/
structure BadN (P : Program) (w : World) (K : PySem.W.Frag) (mg : Str → Option Value) (base : Heap) (x : Str) (ps : List Str) (sp : Sp) : Prop where
  g : mg x = some (.ref (He.ga K x))
  o : OexC K (He.ga K x)
  f : ∃ (fI : Addr) (fd : FuncData), PySem.W.findIn K (.ref (He.ga K x)) "__init__" = some (some (.ref fI)) ∧ PySem.W.typeIn K (.ref fI) = some (.type "function") ∧ FnOk P w K mg base CX0 1 fI fd ps sp ∧ Binds K fd ps []
/-- what its __init__ does -/
def spIni (C : Addr) (fs : List V → List (Str × V)) (ok : List V → Prop) : Sp := fun vs H Q _ => ∃ (a : Addr) (ws : List V), vs = .ref a :: ws ∧ ok ws ∧ H a = some (exo a C none) ∧ ∀ d H2, H d = none → d ≠ a → H2 a = some (exo a C (some d)) → H2 d = some (exd d (fs ws)) → (∀ b, b ≠ a → b ≠ d → H2 b = H b) → Q .non H2
def tBad (C : Addr) (fs : List V → List (Str × V)) (ok : List V → Prop) (ta : TA) : L2.St → Hp → XK → Prop := fun σ H Q => ta σ H fun vs H1 => vs.length ≤ 1000 ∧ ok vs ∧ ∀ d, H1 d = none → Q (.ref C) (some d) (upd H1 d (.xd (fs vs)))
theorem pmk_bad {X : Cx} {x : Str} {ps : List Str} {fs : List V → List (Str × V)} {ok : List V → Prop} {j : Nat} {e : Expr} {es : List Expr} {ta : TA} {p pos : Pos} (B : BadN X.prog X.w X.K X.mg X.base x ps (spIni (He.ga X.K x) fs ok)) (hr : Room j X.A) (hj : 2 ≤ j) (hg : Gl X x) (ha : PA X (e :: es) ta)
    (hdb : (x == ("__debug__" : Str)) = false := by decide) (he : starEach (e :: es) X.env = (false, eval e X.env) :: starEach es X.env := by rfl) (hpl : (backTo pos (starEach es X.env)).any (·.1) = false := by rfl) :
    PMk X (.Call (.Name x p) (e :: es) [] pos) (tBad (He.ga X.K x) fs ok ta) := by
  obtain ⟨fI, fd, iC, tI, F1, hb⟩ := B.f
  intro pins s σ H Q I h
  have ha2 : PA X (e :: es) (fun σ H R => ∃ R' : List V → Hp → Prop, (∀ vs H1, R' vs H1 → R vs H1) ∧ ta σ H R') := ⟨fun q pn s0 σ0 H0 R I0 ⟨R', im, h0⟩ => thn (ha.run q pn s0 σ0 H0 R' I0 h0) fun us s1 ⟨vs, H1, J, r, z⟩ => ⟨vs, H1, J, r, im _ _ z⟩⟩
  refine pmk_oex (CX := CX0) (k := 1) (dvs := []) (ds := []) B.o iC tI F1 (hr.mono hj) hb .nil pass0 hg B.g ha2 hdb he hpl pins s σ H Q I ⟨_, ?_, h⟩
  rintro vs H1 ⟨hl, hok, hq⟩
  refine ⟨hl, fun a hn => ?_⟩
  rw [List.append_nil]
  refine ⟨a, vs, rfl, hok, upd_same, fun d H2 hd hda e1 e2 e3 => ⟨rfl, d, fs vs, e1, e2, ?_, ?_⟩⟩
  · rw [upd_ne hda] at hd
    exact hd
  · rw [upd_ne hda] at hd
    have eu : upd (L2.del H2 a) d (.xd (fs vs)) = upd H1 d (.xd (fs vs)) := by
      funext b
      by_cases hb : b = d
      · rw [hb, upd_same, upd_same]
      · rw [upd_ne hb, upd_ne hb]
        by_cases hba : b = a
        · rw [hba, del_same, hn]
        · rw [del_ne hba, e3 b hba hb, upd_ne hba]
    rw [eu]
    exact hq d hd
end Bm
set_option maxHeartbeats 1000000
namespace Bm
open PySem PySem.Spec PyProof.Rows L2
def fsNum : List V → List (Str × V) := fun ws => ws.map fun v => ("number", v)
def okNum : List V → Prop := fun ws => ∃ n : Int, ws = [.int n] ∧ n.natAbs.log2 < 1920
section
variable {P : Program} {w : World} {K : PySem.W.Frag} {mg : Str → Option Value} {base : Heap}
theorem app_len (a b : Str) : (a ++ b).length = a.length + b.length := Array.size_append ..
theorem fit2 {a : Str} {n : Int} (h : a.length ≤ 100) (hn : n.natAbs.log2 < 1920) : (Str.empty ++ a).length ≤ sizeLine ∧ ((Str.empty ++ a) ++ (PySem.Str.ofString (toString n))).length ≤ sizeLine := by
  have e : (Str.empty).length = 0 := rfl
  have e1 := int_text_len_1921 hn
  rw [app_len (Str.empty ++ a), app_len, e]
  exact ⟨line5 (by omega), line5 (by omega)⟩
theorem ini_BadList (S : SupI P K "BadList" "BadList.__init__" s_init_BadList) (hm : mg "super" = none) (hno : PySem.W.findIn K (.ref (He.ga K "BadList")) "number" = some none) (g : mg "BadList" = some (.ref (He.ga K "BadList"))) : BadN P w K mg base "BadList" ["self", "number"] (spIni (He.ga K "BadList") fsNum okNum) := by
  obtain ⟨⟨cell, cda, kV, doc, pm, ct, an, F, hcd⟩, T, hi, ht⟩ := S
  refine ⟨g, T, _, _, hi, ht, init_fn2 (N := ["self", "number", "__class__"]) (ps := ["self", "number"]) (k := 0) (e := _) (rest := _) rfl F T hcd (NdefX.nscope_by (by decide +kernel)) rfl rfl rfl rfl hm (fun _ => rfl) (fun vs H Q E h => ?_) (fun A outer s H vs Q E h => ?_), .all fun us hl => match us, hl with | [_, _], _ => rfl⟩
  · obtain ⟨a, ws, rfl, ⟨n, rfl, _⟩, _⟩ := h
    rfl
  · obtain ⟨a, ws, rfl, ⟨n, rfl, hn⟩, ha, q⟩ := h
    refine ⟨_, _, a, _, rfl, ha, pe_joined (.cons pe_str (.cons (pe_fmt (pv 1)) .nil)), pss_one (ps_ost (pv 0) (pv 1)), rfl, rfl, rfl, ?_⟩
    refine ⟨_, rfl, (fit2 (by decide +kernel) hn).1, _, rfl, .inr ⟨n, rfl, hn, _, rfl, (fit2 (by decide +kernel) hn).2, Nat.le_refl _, ha, ?_⟩⟩
    refine ⟨_, rfl, _, rfl, a, _, rfl, T, hno, .inl ⟨ha, fun d hd hda => q d _ hd hda upd_same ?_ fun b h1 h2 => ?_⟩⟩
    · rw [upd_ne hda]
      exact upd_same
    · rw [upd_ne h1, upd_ne h2]
end
end Bm
set_option maxHeartbeats 800000
namespace Bm
open PySem PySem.Spec PyProof.Rows L2
/-- jump or call stands first -/
def goHead : List V → Bool
  | .str z :: _ => decide (z = "jump") || decide (z = "call")
  | _ => false
/-- the last is a number so great at most -/
def lastTo (n : Nat) (xs : List V) : Bool := match xs.getLast? with
  | some (.int g) => decide (g ≤ (n : Int))
  | _ => false
/-- a deed of a list of so many -/
def listB (n : Nat) (xs : List V) : Bool := if goHead xs = true then deedB (xs ++ [.bl true]) && lastTo n xs else deedB xs
theorem vals_last (d : De) (h : d.vals.getLast? = some (.bl true)) : (∃ k g, d = .jump k g true) ∨ ∃ g, d = .call g true := by
  cases d with
  | jump k g f =>
    have h : some (V.bl f) = some (.bl true) := h
    exact .inl ⟨k, g, by rw [V.bl.inj (Option.some.inj h)]⟩
  | call g f =>
    have h : some (V.bl f) = some (.bl true) := h
    exact .inr ⟨g, by rw [V.bl.inj (Option.some.inj h)]⟩
  | _ => cases h
theorem goes_item {xs : List V} (h : deedB (xs ++ [.bl true]) = true) : ∃ x : Ld, x.1.ok ∧ x.1.goes = true ∧ xs = itemV x := by
  obtain ⟨d, ok, e⟩ := deed_of h
  have hl := vals_last d (by rw [← e, List.getLast?_concat])
  have cut : ∀ {l : List V} {v : V}, xs ++ [.bl true] = l ++ [v] → xs = l := fun h => (List.append_inj' h rfl).1
  rcases hl with ⟨k, g, rfl⟩ | ⟨g, rfl⟩
  · have g0 : 0 ≤ g := ok.2.1
    refine ⟨(.jump k g true, g.toNat), ok, rfl, cut (v := .bl true) (e.trans ?_)⟩
    show [V.str "jump", V.str (nm TM k), V.int g, V.bl true] = [V.str "jump", V.str (nm TM k), V.int (g.toNat : Nat)] ++ [V.bl true]
    rw [Int.toNat_of_nonneg g0]
    rfl
  · have g0 : 0 ≤ g := ok.1
    refine ⟨(.call g true, g.toNat), ok, rfl, cut (v := .bl true) (e.trans ?_)⟩
    show [V.str "call", V.int g, V.bl true] = [V.str "call", V.int (g.toNat : Nat)] ++ [V.bl true]
    rw [Int.toNat_of_nonneg g0]
    rfl
theorem go_is : ∀ {z : Str}, (decide (z = "jump") || decide (z = "call")) = inV (.str z) [.str "jump", .str "call"] := fun {z} => by
  have e : inV (.str z) [.str "jump", .str "call"] = ((("jump" : Str) == z) || ((("call" : Str) == z) || false)) := rfl
  rw [e, Bool.or_false]
  congr 1
  · by_cases c : z = "jump"
    · subst c; decide +kernel
    · rw [decide_eq_false c]; exact (beq_eq_false_iff_ne.mpr fun z => c z.symm).symm
  · by_cases c : z = "call"
    · subst c; decide +kernel
    · rw [decide_eq_false c]; exact (beq_eq_false_iff_ne.mpr fun z => c z.symm).symm
theorem item_last? {x : Ld} (h : x.1.goes = true) : (itemV x).getLast? = some (.int (x.2 : Nat)) := by
  obtain ⟨d, n⟩ := x
  cases d with
  | jump k g f => rfl
  | call g f => rfl
  | _ => cases h
/-- the rows of a list of deeds, and those alone -/
theorem list_item {n : Nat} {xs : List V} (h : listB n xs = true) : ∃ x : Ld, x.1.ok ∧ xs = itemV x ∧ (x.1.goes = true → x.2 ≤ n) := by
  unfold listB at h
  by_cases c : goHead xs = true
  · rw [if_pos c, Bool.and_eq_true] at h
    obtain ⟨x, h1, h2, h3⟩ := goes_item h.1
    refine ⟨x, h1, h3, fun _ => ?_⟩
    have hl := h.2
    unfold lastTo at hl
    rw [h3, item_last? h2] at hl
    have := of_decide_eq_true hl
    omega
  · rw [if_neg c] at h
    obtain ⟨d, ok, e⟩ := deed_of h
    have ng : d.goes = false := by
      obtain ⟨z, r, e1, e2⟩ := item_goes (x := (d, 0)) ok
      obtain ⟨z2, r2, e3, e4⟩ := head_goes ok
      rw [goal_goes] at e4
      rw [e, e3] at c
      have c : ¬ (decide (z2 = "jump") || decide (z2 = "call")) = true := c
      rw [go_is, e4] at c
      exact eq_false_of_ne_true c
    refine ⟨(d, 0), ok, ?_, fun h => by rw [ng] at h; cases h⟩
    rw [e]
    unfold itemV
    have : d.goal = none := by
      cases h : d.goal with
      | none => rfl
      | some g =>
        have := goal_goes d
        rw [h, ng] at this
        cases this
    rw [this]
theorem jump_B {k n : Nat} (h : k < 7) (hn : n ≤ 65535) : deedB [.str "jump", .str (nm TM k), .int (n : Nat), .bl true] = true :=
  deed_vals (d := .jump k (n : Nat) true) ⟨h, by omega, by omega⟩
theorem call_B {n : Nat} (hn : n ≤ 65535) : deedB [.str "call", .int (n : Nat), .bl true] = true :=
  deed_vals (d := .call (n : Nat) true) ⟨by omega, by omega⟩
theorem item_list {n : Nat} {x : Ld} (ok : x.1.ok) (h : x.1.goes = true → x.2 ≤ n) (hn : n ≤ 65535) : listB n (itemV x) = true := by
  obtain ⟨d, m⟩ := x
  unfold listB
  obtain ⟨z, r, e1, e2⟩ := item_goes (x := (d, m)) ok
  have eg : goHead (itemV (d, m)) = d.goes := by
    rw [e1]
    exact go_is.trans e2
  rw [eg]
  by_cases c : d.goes = true
  · have hm := h c
    have hm : m ≤ n := hm
    rw [if_pos c, Bool.and_eq_true]
    constructor
    · cases d with
      | jump k g f => exact jump_B ok.1 (by omega)
      | call g f => exact call_B (by omega)
      | _ => cases c
    · unfold lastTo
      rw [item_last? c]
      exact decide_eq_true (by omega)
  · rw [if_neg c]
    have e : itemV (d, m) = d.vals := by
      unfold itemV
      cases h : d.goal with
      | none => rfl
      | some g =>
        have := goal_goes d
        rw [h] at this
        exact absurd this.symm c
    rw [e]
    exact deed_vals ok
/-- an odd thing's data -/
theorem okv_data {K : PySem.W.Frag} {H : Hp} {v : V} (h : OkV K H v) (hs : ∀ z, v = .str z → PyData.strOk z = true) : ∃ d, Dp K H v d ∧ d.canLay0 = true ∧ d.depth ≤ 1 ∧ ∀ z, PyData.eqv d (.str z) = decide (v = .str z) := by
  cases h with
  | int i => exact ⟨.int i, .int i, by simp [PyData.canLay0], by simp [PyData.depth], fun z => by simp [PyData.eqv]⟩
  | bl b => exact ⟨.bool b, .bl b, by simp [PyData.canLay0], by simp [PyData.depth], fun z => by simp [PyData.eqv]⟩
  | str x =>
    refine ⟨.str x, .str x, by simp [PyData.canLay0, hs x rfl], by simp [PyData.depth], fun z => ?_⟩
    have e : PyData.eqv (.str x) (.str z) = decide (x = z) := by
      simp [PyData.eqv]
      rfl
    rw [e]
    exact decide_eq_decide.mpr ⟨fun h => by rw [h], fun h => V.str.inj h⟩
  | unit h => exact ⟨.tuple [], .tup h .nil, by simp [PyData.canLay0, PyData.canLayAll0], by simp [PyData.depth, PyData.depthAll], fun z => by simp [PyData.eqv]⟩
theorem cut_1 (xs : List V) : cutV xs none (some 1) = xs.take 1 := by
  unfold cutV
  rw [show HT.sIx xs.length xs.length (some 1) = min 1 xs.length from HT.sIx_nat xs.length xs.length 1, HT.sIx_none]
  show (xs.drop 0).take (min 1 xs.length - 0) = _
  rw [List.drop_zero, Nat.sub_zero, List.take_eq_take_min (i := 1)]
def headIs (z : Str) : List V → Bool
  | v :: _ => decide (v = .str z)
  | [] => false
theorem head_data {K : PySem.W.Frag} {H : Hp} {xs : List V} (h : ∀ x ∈ xs, OkV K H x) (hs : ∀ z r, xs = .str z :: r → PyData.strOk z = true) : ∃ ds, (∀ H', Same H H' → DpAll K H' (xs.take 1) ds) ∧ SeqAt.shaped (.tuple ds) = true ∧ ∀ z, PyData.eqv (.tuple ds) (.tuple [.str z]) = headIs z xs := by
  cases xs with
  | nil => exact ⟨[], fun _ _ => .nil, by decide +kernel, fun z => by simp [PyData.eqv, PyData.eqvAll, headIs]⟩
  | cons v r =>
    obtain ⟨d, h1, h2, h3, h4⟩ := okv_data (h v (List.mem_cons_self ..)) (fun z e => hs z r (by rw [e]))
    refine ⟨[d], fun H' e => .cons (Dp.same e h1) .nil, ?_, fun z => ?_⟩
    · unfold SeqAt.shaped
      have : (PyData.tuple [d]).depth ≤ 64 := by
        simp only [PyData.depth, PyData.depthAll]
        omega
      rw [decide_eq_true this, Bool.and_true]
      simp [PyData.canLay0, PyData.canLayAll0, h2]
    · have := h4 z
      simp [PyData.eqv, PyData.eqvAll, headIs, this]
theorem heads (xs : List V) : goHead xs = (headIs "jump" xs || headIs "call" xs) := by
  cases xs with
  | nil => rfl
  | cons v r =>
    cases v with
    | str z =>
      show (decide (z = "jump") || decide (z = "call")) = (decide (V.str z = .str "jump") || decide (V.str z = .str "call"))
      congr 1
      · exact decide_eq_decide.mpr ⟨fun h => by rw [h], fun h => V.str.inj h⟩
      · exact decide_eq_decide.mpr ⟨fun h => by rw [h], fun h => V.str.inj h⟩
    | _ => rfl
section
variable {P : Program} {w : World} {K : PySem.W.Frag} {mg : Str → Option Value} {base : Heap} {f : Addr} {fd : FuncData} {dvs : List V} {odd : List Str}
abbrev KnIsD (P : Program) (w : World) (K : PySem.W.Frag) (mg : Str → Option Value) (base : Heap) (odd : List Str) : Prop := Kn P w K mg base CX0 3 "is_deed" ["thing"] [] (spDeed K odd)
/-- a row that may be told -/
structure RowV (K : PySem.W.Frag) (odd : List Str) (H : Hp) (xs : List V) : Prop where
  okv : ∀ x ∈ xs, OkV K H x
  nam : ∀ z r, xs = .str z :: r → (∃ ks, (z, ks) ∈ PT) ∨ z ∈ odd
  gd : ∀ x ∈ xs, GdV x = true
  few : xs.length ≤ 100
theorem RowV.sok {K : PySem.W.Frag} {odd : List Str} {H : Hp} {xs : List V} (h : RowV K odd H xs) : ∀ z r, xs = .str z :: r → PyData.strOk z = true := fun z r e => h.gd (.str z) (by rw [e]; exact List.mem_cons_self ..)
theorem ne_head {a : Addr} {xs : List V} {z : Str} {σ : L2.St} {H G : Hp} {Q : VK} {ds : List PyData} (h0 : σ[0]? = some (some (.ref a))) (hS : SqT K G a xs) (sG : Same H G) (hd : ∀ H', Same H H' → DpAll K H' (xs.take 1) ds) (hs : SeqAt.shaped (.tuple ds) = true) (he : PyData.eqv (.tuple ds) (.tuple [.str z]) = headIs z xs) (hz : PyData.strOk z = true) (q : ∀ G', Same G G' → Q (.bl (!headIs z xs)) G') :
    tOp (rNeD K) (tSl (rSlA K) (tVar 0) tNoPart (tPart (tC (V.int 1)))) (tTup (tCons (tC (V.str z)) tNil)) σ G Q := by
  refine ⟨_, h0, _, rfl, rsl hS fun t H1 s1 ht => ⟨line5 (by simp), fun u hu => ?_⟩⟩
  rw [cut_1] at ht
  have s2 : Same H1 (upd H1 u (.tup [V.str z])) := Same.add hu
  have e2 : (upd H1 u (.tup [V.str z])) u = some (.tup [V.str z]) := upd_same
  generalize upd H1 u (.tup [V.str z]) = H2 at s2 e2 ⊢
  have n2 : [V.str z].all numS = true := by
    rw [List.all_cons, List.all_nil, Bool.and_true]
    exact hz
  refine ⟨_, _, .tup (Same.tup s2 ht) (hd _ (Same.trans sG (Same.trans s1 s2))), .tup (SqT.of e2) (.cons (.str z) .nil), hs, tup_shaped n2, ?_⟩
  rw [he]
  exact q H2 (Same.trans s1 s2)
def spListed (K : PySem.W.Frag) (odd : List Str) : Sp := fun vs H Q _ => ∃ (a : Addr) (xs : List V) (n : Nat), vs = [.ref a, .int (n : Nat)] ∧ SqT K H a xs ∧ RowV K odd H xs ∧ ∀ H', Same H H' → Q (.bl (listB n xs)) H'
abbrev N_is_listed : List Str := ["thing", "many"]
theorem sc_is_listed : FnScope ["thing", "many"] ["thing", "many"] (defScope s_is_listed) := ⟨rfl, rfl, rfl, by decide +kernel, rfl, by decide +kernel, by decide +kernel⟩
theorem ok_listed (F : FnP K "is_listed" s_is_listed dvs f fd) (k_is_deed : KnIsD P w K mg base odd) (k_going_to : KnGoing P w K mg base) (g_isinstance : mg "isinstance" = none) (g_tuple : mg "tuple" = none) : FnOk P w K mg base CX0 4 f fd ["thing", "many"] (spListed K odd) := by
  refine F.ok sc_is_listed (fun vs H Q E h => ?_) (fun cdv A outer s H vs Q E hr h => ?_)
  · obtain ⟨a, xs, n, rfl, _⟩ := h
    rfl
  · obtain ⟨a, xs, n, rfl, hS, rv, q⟩ := h
    refine ⟨_, PSs.nox (pss_cons (ps_if (pt_not (pt_val (pe_callB call_isi rfl g_isinstance (by decide +kernel) (pa_cons (pv 0) (pa_cons (pe_bltn (v := .ty "tuple") rfl g_tuple (by decide +kernel) rfl) pa_nil))))) (pss_one (ps_ret pe_bl)) pss_nil)
      (pss_cons (ps_if (PW.pt (pw_and (pt_cmpR (op_neD hr.units) (pe_slice sl_tupA (pv 0) po_none (po_some pe_int)) (pe_tup (pa_cons pe_str pa_nil)) (nomark _)) (pw_and1 (pt_cmpR (op_neD hr.units) (pe_slice sl_tupA (pv 0) po_none (po_some pe_int)) (pe_tup (pa_cons pe_str pa_nil)) (nomark _))))) (pss_one (ps_ret (pk k_is_deed hr (by decide) rfl pass0 (pa_cons (pv 0) pa_nil)))) pss_nil)
      (pss_one (ps_ret (pe_and (pk k_is_deed hr (by decide) rfl pass0 (pa_cons (pe_op op_catA (pv 0) (pe_tup (pa_cons pe_bl pa_nil))) pa_nil)) (pe_one (pe_cmpR op_le (pk k_going_to hr (by decide) rfl pass0 (pa_cons (pv 0) pa_nil)) (pv 1) (nomark _)))))))), ?_⟩
    refine ⟨_, rfl, _, _, _, _, _, rfl, .ty _, Knd.ty (.tup hS), kit_ty (r := true) (by decide +kernel), _, rfl, iteF ?_⟩
    obtain ⟨ds, d1, d2, d3⟩ := head_data rv.okv rv.sok
    refine ne_head (K := K) (H := H) rfl hS (Same.refl H) d1 d2 (d3 "jump") (by decide +kernel) fun G1 s1 => ⟨_, rfl, ?_⟩
    have okd : ∀ (G : Hp) (ys : List V), Same H G → (∀ x ∈ ys, x ∈ xs) → ∀ x ∈ ys, OkV K G x := fun G ys e h x hx => OkV.same e (rv.okv x (h x hx))
    have no_ : goHead xs = false → ∀ G, Same H G → tCall (spDeed K odd) [] E0 (tCons (tVar 0) tNil) (L2.start ["thing", "many"] [V.ref a, V.int (n : Nat)]) G Q := fun hg G e => by
      refine ⟨_, rfl, a, xs, rfl, Same.tup e hS, okd G xs e fun _ h => h, rv.nam, fun G2 s2 => ?_⟩
      have el : listB n xs = deedB xs := by unfold listB; rw [hg]; rfl
      rw [← el]
      exact q G2 (Same.trans e s2)
    have yes_ : goHead xs = true → ∀ G, Same H G → tAndV (tCall (spDeed K odd) [] E0 (tCons (tOp (rCatA K) (tVar 0) (tTup (tCons (tC (V.bl true)) tNil))) tNil)) (tOp (rI0 fun i j => V.bl (decide (i ≤ j))) (tCall (spGoL K) [] E0 (tCons (tVar 0) tNil)) (tVar 1)) (L2.start ["thing", "many"] [V.ref a, V.int (n : Nat)]) G Q := fun hg G e => by
      have el : listB n xs = (deedB (xs ++ [.bl true]) && lastTo n xs) := by unfold listB; rw [if_pos hg]
      refine ⟨_, rfl, line5 (by simp), fun u hu => ?_⟩
      have s2 : Same G (upd G u (.tup [V.bl true])) := Same.add hu
      have e2 : (upd G u (.tup [V.bl true])) u = some (.tup [V.bl true]) := upd_same
      generalize upd G u (.tup [V.bl true]) = G2 at s2 e2 ⊢
      have s02 := Same.trans e s2
      refine rcat (Same.tup s02 hS) (SqT.of e2) (by have := rv.few; simp only [List.length_cons, List.length_nil]; omega) fun v G3 s3 hv => ?_
      have s03 := Same.trans s02 s3
      refine ⟨v, _, rfl, hv, fun x hx => ?_, fun z r ez => ?_, fun G4 s4 => ⟨_, rfl, ?_⟩⟩
      · rcases List.mem_append.mp hx with hx | hx
        · exact OkV.same s03 (rv.okv x hx)
        · rw [List.mem_singleton.mp hx]
          exact .bl true
      · cases xs with
        | nil => cases hg
        | cons y l =>
          have ey : y = .str z := (List.cons.inj ez).1
          exact rv.nam z l (by rw [ey])
      · have s04 := Same.trans s03 s4
        cases hb : deedB (xs ++ [.bl true]) with
        | false =>
          rw [hb, Bool.false_and] at el
          rw [el] at q
          exact iteF (q G4 s04)
        | true =>
          obtain ⟨x, h1, h2, h3⟩ := goes_item hb
          rw [hb, Bool.true_and] at el
          have hS2 := hS
          rw [h3] at hS2
          refine iteT ⟨_, rfl, a, x, rfl, Same.tup s04 hS2, h1, fun G5 s5 => ?_⟩
          have eg : goL x = some x.2 := by unfold goL; rw [if_pos h2]
          rw [eg]
          refine ⟨_, rfl, _, _, rfl, rfl, ?_⟩
          have e3 : lastTo n xs = decide (((x.2 : Nat) : Int) ≤ (n : Int)) := by
            unfold lastTo
            rw [h3, item_last? h2]
          dsimp only
          rw [← e3, ← el]
          exact q G5 (Same.trans s04 s5)
    have eh := heads xs
    cases c : headIs "jump" xs with
    | true =>
      rw [c, Bool.true_or] at eh
      exact iteF (yes_ eh G1 s1)
    | false =>
      rw [c, Bool.false_or] at eh
      refine iteT (ne_head (K := K) (H := H) rfl (Same.tup s1 hS) s1 d1 d2 (d3 "call") (by decide +kernel) fun G2 s2 => ⟨_, rfl, ?_⟩)
      have s02 := Same.trans s1 s2
      cases c2 : headIs "call" xs with
      | true => exact iteF (yes_ (eh.trans c2) G2 s02)
      | false => exact iteT (no_ (eh.trans c2) G2 s02)
abbrev KnListed (P : Program) (w : World) (K : PySem.W.Frag) (mg : Str → Option Value) (base : Heap) (odd : List Str) : Prop := Kn P w K mg base CX0 4 "is_listed" ["thing", "many"] [] (spListed K odd)
end
end Bm
set_option maxHeartbeats 800000
namespace Bm
open PySem PySem.Spec PyProof.Rows L2
theorem passB {X : Cx} {E : XK} {E₁ : Value → Shared → Prop} (hs : X.stack = X.env :: X.outer := by rfl) (hf : X.env.frame = some X.env.locals := by rfl) (hex : X.ex = [] := by rfl)
    (hx : X.xe = (fun e s' => wpAny (model X.prog X.w) X.A (leaving X.env e) (fun _ s'' => L2.CX X.prog X.w X.outer X.H_0 X.s_0 E e s'') E₁ s') := by rfl) : Passes (L2.CX X.prog X.w) X E :=
  passes_call (W := fun cls d _ H => E cls d H) (takes_of hs hf hex hx) fun _ _ _ _ h => h
def GoodR (xss : List (List V)) : Prop := xss.length ≤ 200 ∧ ∀ xs ∈ xss, listB xss.length xs = true
def BadR (xss : List (List V)) (j : Nat) : Prop := j < xss.length ∧ (j = 200 ∨ ∃ xs, xss[j]? = some xs ∧ listB xss.length xs = false) ∧ ∀ i xs, i < j → xss[i]? = some xs → i ≠ 200 ∧ listB xss.length xs = true
theorem BadR.le {xss : List (List V)} {j : Nat} (h : BadR xss j) : j ≤ 200 := by
  refine Nat.le_of_not_lt fun c => ?_
  exact (h.2.2 200 _ c (List.getElem?_eq_getElem (by have := h.1; omega))).1 rfl
theorem good_all {xss : List (List V)} (h : ∀ i xs, i < xss.length → xss[i]? = some xs → i ≠ 200 ∧ listB xss.length xs = true) : GoodR xss := by
  refine ⟨Nat.le_of_not_lt fun c => (h 200 _ c (List.getElem?_eq_getElem c)).1 rfl, fun xs hx => ?_⟩
  obtain ⟨i, hi⟩ := List.getElem?_of_mem hx
  exact (h i xs (List.getElem?_eq_some_iff.mp hi).1 hi).2
theorem rows_items {n : Nat} : ∀ {xss : List (List V)}, (∀ xs ∈ xss, listB n xs = true) → ∃ ls : List Ld, xss = ls.map itemV ∧ ∀ x ∈ ls, x.1.ok ∧ (x.1.goes = true → x.2 ≤ n)
  | [], _ => ⟨[], rfl, fun _ h => nomatch h⟩
  | xs :: r, h => by
    obtain ⟨x, h1, h2, h3⟩ := list_item (h xs (List.mem_cons_self ..))
    obtain ⟨ls, h4, h5⟩ := rows_items (xss := r) fun y hy => h y (List.mem_cons_of_mem _ hy)
    refine ⟨x :: ls, by rw [h2, h4]; rfl, fun y hy => ?_⟩
    rcases List.mem_cons.mp hy with e | e
    · rw [e]; exact ⟨h1, h3⟩
    · exact h5 y e
theorem GoodR.lst {K : PySem.W.Frag} {H : Hp} {rs : List V} {xss : List (List V)} (g : GoodR xss) (h : TupsV K H rs xss) : ∃ ls, xss = ls.map itemV ∧ Lst K H rs ls ∧ ls.length ≤ 200 := by
  obtain ⟨ls, e1, e2⟩ := rows_items g.2
  have hl : xss.length = ls.length := by rw [e1, List.length_map]
  have := g.1
  refine ⟨ls, e1, ⟨by rw [← e1]; exact h, fun x hx hg => ?_, fun x hx => (e2 x hx).1, by omega⟩, by omega⟩
  have := (e2 x hx).2 hg
  omega
section
variable {P : Program} {w : World} {K : PySem.W.Frag} {mg : Str → Option Value} {base : Heap} {f : Addr} {fd : FuncData} {dvs : List V} {odd : List Str}
abbrev BadLs (P : Program) (w : World) (K : PySem.W.Frag) (mg : Str → Option Value) (base : Heap) : Prop := BadN P w K mg base "BadList" ["self", "number"] (spIni (He.ga K "BadList") fsNum okNum)
def RaisedNo (K : PySem.W.Frag) (x : Str) (E : XK) (H : Hp) (j : Nat) : Prop := ∀ d H', Same H H' → H d = none → H' d = some (.xd [("number", .int (j : Nat))]) → E (.ref (He.ga K x)) (some d) H'
theorem RaisedNo.after {K : PySem.W.Frag} {x : Str} {E : XK} {H H' : Hp} {j : Nat} (e : Same H H') (h : RaisedNo K x E H j) : RaisedNo K x E H' j := fun d G s hd hx => h d G (Same.trans e s) (Same.none e hd) hx
def spChecked (K : PySem.W.Frag) (odd : List Str) : Sp := fun vs H Q E => ∃ (a : Addr) (rs : List V) (xss : List (List V)), vs = [.ref a] ∧ SqL K H a rs ∧ TupsV K H rs xss ∧ (∀ xs ∈ xss, RowV K odd H xs) ∧ xss.length ≤ 1000 ∧
  (GoodR xss → ∀ D H', Same H H' → H D = none → H' D = some (.lst rs) → Q (.ref D) H') ∧ ∀ j, BadR xss j → RaisedNo K "BadList" E H j
abbrev N_checked_deeds : List Str := ["deeds", "many", "number", "thing"]
theorem sc_checked_deeds : FnScope ["deeds", "many", "number", "thing"] ["deeds"] (defScope s_checked_deeds) := ⟨rfl, rfl, rfl, by decide +kernel, rfl, by decide +kernel, by decide +kernel⟩
theorem ok_checked (F : FnP K "checked_deeds" s_checked_deeds dvs f fd) (k_is_listed : KnListed P w K mg base odd) (g_len : mg "len" = none) (g_enumerate : mg "enumerate" = none) (g_list : mg "list" = none) (gm : ∃ t, mg "DEEDS_MOST" = some (.int 200 t)) (b_BadList : BadLs P w K mg base) : FnOk P w K mg base (L2.CX P w) 5 f fd ["deeds"] (spChecked K odd) := by
  refine F.ok sc_checked_deeds (fun vs H Q E h => ?_) (fun cdv A outer s H vs Q E hr h => ?_)
  · obtain ⟨a, rs, xss, rfl, _⟩ := h
    rfl
  · obtain ⟨a, rs, xss, rfl, hS, hV, hrv, hl, q, qe⟩ := h
    obtain ⟨tk, g_DEEDS_MOST⟩ := gm
    let v_DEEDS_MOST : Int := 200
    refine ⟨_, (pss_cons (ps_set (i := 1) sc_checked_deeds.nd rfl (Or.inl rfl) (pe_callB call_len rfl g_len boot_len (pa_cons (pv 0) pa_nil)))
      (pss_cons (ps_for (passes_of rfl) rfl (pi_enum rfl g_enumerate (pa_cons (pv 0) pa_nil)) (pg_tup rfl (pgs_cons (pg_name (i := 2) sc_checked_deeds.nd rfl (Or.inl rfl)) (pgs_cons (pg_name (i := 3) sc_checked_deeds.nd rfl (Or.inl rfl)) pgs_nil)))
      (pss_one (ps_if (PW.pt (pw_or (pt_cmpR op_eq (pv 2) (pe_glob (v := .int v_DEEDS_MOST) rfl g_DEEDS_MOST ⟨_, rfl⟩) (nomark _)) (pw_or1 (pt_not (pt_val (pk k_is_listed hr (by decide) rfl pass0 (pa_cons (pv 3) (pa_cons (pv 1) pa_nil)))))))) (pss_one (ps_raise rfl (takes_of rfl rfl rfl rfl) (pmk_bad b_BadList hr (by decide) rfl (pa_cons (pv 2) pa_nil)))) pss_nil)))
      (pss_one (ps_ret (pe_callTy call_list_of rfl g_list (by decide +kernel) (pa_cons (pv 0) pa_nil)))))), ?_⟩
    have hrl := hV.len
    refine ⟨_, rfl, _, _, rfl, .inl ⟨_, hS, rfl⟩, ?_⟩
    refine ⟨_, rfl, a, _, rfl, hS, for_it (walk_enum (xs := rs)) (fun i σ G => Same H G ∧ (∀ k xs, k < i → xss[k]? = some xs → k ≠ 200 ∧ listB xss.length xs = true) ∧ ∃ v2 v3 : Option V, σ = [some (.ref a), some (.int (rs.length : Nat)), v2, v3]) ⟨Same.refl _, fun _ _ h => absurd h (Nat.not_lt_zero _), none, none, rfl⟩ (fun i σ G _ h => h.1.seq hS) ?_ ?_⟩
    · rintro i x σ G G' hi ⟨sG, hn, v2, v3, rfl⟩ ⟨T, y, z, rfl, hT, rfl, hy, hz⟩
      obtain rfl : V.int (i : Nat) = y := Option.some.inj hy
      have hil : i < xss.length := by omega
      have hx := List.getElem?_eq_getElem hil
      have hxm := List.getElem_mem hil
      generalize xss[i] = xs at hx hxm
      obtain ⟨p, h1, h2⟩ := hV.at_ hx
      obtain rfl : V.ref p = z := Option.some.inj (h1.symm.trans hz)
      have sT : Same G (upd G T (.tup [V.int (i : Nat), V.ref p])) := Same.add hT
      have eT : (upd G T (.tup [V.int (i : Nat), V.ref p])) T = some (.tup [V.int (i : Nat), V.ref p]) := upd_same
      generalize upd G T (.tup [V.int (i : Nat), V.ref p]) = G3 at sT eT ⊢
      have s3 := Same.trans sG sT
      have rv := hrv xs hxm
      refine ⟨T, _, rfl, SqT.of eT, rfl, _, _, rfl, _, _, rfl, rfl, ?_⟩
      refine ⟨_, rfl, rfl, _, rfl, ?_⟩
      have bad_ : ∀ G4, Same H G4 → (i = 200 ∨ listB xss.length xs = false) → BadR xss i ∧ RaisedNo K "BadList" E G4 i := fun G4 s4 hb => by
        have hB : BadR xss i := ⟨hil, hb.elim .inl fun h => .inr ⟨xs, hx, h⟩, hn⟩
        exact ⟨hB, (qe i hB).after s4⟩
      show if decide (V.int (i : Nat) = V.int 200) = true then _ else _
      by_cases c : i = 200
      · rw [decide_eq_true (by rw [c]; rfl)]
        obtain ⟨hB, hR⟩ := bad_ G3 s3 (.inl c)
        refine iteT (iteT ⟨_, rfl, Nat.le_succ_of_le (by simp), ⟨_, rfl, small_log (Nat.le_trans hB.le (by decide))⟩, fun d hd => ?_⟩)
        exact hR d _ (Same.add hd) hd upd_same
      · rw [decide_eq_false (fun z => c (by have := V.int.inj z; omega))]
        refine iteF ⟨_, rfl, _, rfl, p, xs, rs.length, rfl, Same.tup s3 h2, ⟨fun x hx => OkV.same s3 (rv.okv x hx), rv.nam, rv.gd, rv.few⟩, fun G4 s4 => ⟨_, rfl, ?_⟩⟩
        have s04 := Same.trans s3 s4
        rw [hrl]
        cases hb : listB xss.length xs with
        | false =>
          obtain ⟨hB, hR⟩ := bad_ G4 s04 (.inr hb)
          refine iteT ⟨_, rfl, Nat.le_succ_of_le (by simp), ⟨_, rfl, small_log (Nat.le_trans hB.le (by decide))⟩, fun d hd => ?_⟩
          exact hR d _ (Same.add hd) hd upd_same
        | true =>
          refine iteF ⟨s04, fun k ys hk hy2 => ?_, _, _, rfl⟩
          cases Nat.lt_or_eq_of_le (Nat.le_of_lt_succ hk) with
          | inl d => exact hn k ys d hy2
          | inr d =>
            rw [d, hx] at hy2
            rw [d, ← Option.some.inj hy2]
            exact ⟨c, hb⟩
    · rintro σ G ⟨sG, hn, v2, v3, rfl⟩
      have hg : GoodR xss := good_all fun i xs hi hx => hn i xs (by omega) hx
      refine ⟨_, rfl, a, _, rfl, .inl (sG.seq hS), fun D hD => ?_⟩
      exact q hg D _ (Same.trans sG (Same.add hD)) (Same.none sG hD) upd_same
abbrev KnChecked (P : Program) (w : World) (K : PySem.W.Frag) (mg : Str → Option Value) (base : Heap) (odd : List Str) : Prop := Kn P w K mg base (L2.CX P w) 5 "checked_deeds" ["deeds"] [] (spChecked K odd)
/-! lean -/
def spLean (K : PySem.W.Frag) (odd : List Str) : Sp := fun vs H Q E => ∃ (a : Addr) (rs : List V) (xss : List (List V)), vs = [.ref a] ∧ SqL K H a rs ∧ TupsV K H rs xss ∧ (∀ xs ∈ xss, RowV K odd H xs) ∧ xss.length ≤ 1000 ∧
  (GoodR xss → ∃ ls, xss = ls.map itemV ∧ Lst K H rs ls ∧ ∀ D rs' H', Same H H' → H D = none → H' D = some (.lst rs') → Lst K H' rs' (leanL ls) → Q (.ref D) H') ∧ ∀ j, BadR xss j → RaisedNo K "BadList" E H j
abbrev N_lean : List Str := ["deeds"]
theorem sc_lean : FnScope ["deeds"] ["deeds"] (defScope s_lean) := ⟨rfl, rfl, rfl, by decide +kernel, rfl, by decide +kernel, by decide +kernel⟩
theorem ok_lean (F : FnP K "lean" s_lean dvs f fd) (k_checked_deeds : KnChecked P w K mg base odd) (k_leaned : KnLeaned P w K mg base) : FnOk P w K mg base (L2.CX P w) 6 f fd ["deeds"] (spLean K odd) := by
  refine F.ok sc_lean (fun vs H Q E h => ?_) (fun cdv A outer s H vs Q E hr h => ?_)
  · obtain ⟨a, rs, xss, rfl, _⟩ := h
    rfl
  · obtain ⟨a, rs, xss, rfl, hS, hT, hrv, hl, q, qe⟩ := h
    refine ⟨_, (pss_one (ps_ret (pk k_leaned hr (by decide) rfl pass0 (pa_cons (pk k_checked_deeds hr (by decide) rfl passB (pa_cons (pv 0) pa_nil)) pa_nil)))), ?_⟩
    refine ⟨_, rfl, a, rs, xss, rfl, hS, hT, hrv, hl, fun hg D H1 s1 hDn hD => ?_, qe⟩
    obtain ⟨ls, e, hL, q⟩ := q hg
    exact ⟨D, rs, ls, rfl, SqL.of hD, hL.same s1, fun D2 rs2 H2 s2 hD2n hD2 hL2 => q D2 rs2 H2 (Same.trans s1 s2) (Same.none s1 hD2n) hD2 hL2⟩
abbrev KnLean (P : Program) (w : World) (K : PySem.W.Frag) (mg : Str → Option Value) (base : Heap) (odd : List Str) : Prop := Kn P w K mg base (L2.CX P w) 6 "lean" ["deeds"] [] (spLean K odd)
end
end Bm
set_option maxHeartbeats 1000000
/-! a list grows by a tuple's items -/
namespace Bm
open PySem PySem.Spec PyProof.Rows L2
theorem ext_tup (l : Addr) (xs : Array Value) (n : Nat) (c : Addr) (dd : Option Addr) (sl : Array (Option Value)) (ys : Array Value) (m : Nat) (h0 : ¬(!xs.isEmpty && Builtin.List.listTooLong (xs.size + ys.size)) = true) (h1 : xs.size ≤ sizeLine) (h2 : xs.size + ys.size ≤ sizeLine + 1) :
    Meets (Builtin.«list.extend» ⟨[.ref l, .ref c], []⟩) (fun _ R s => s.heap.get? l = some { cls := .type "list", data := .seq xs n } ∧ s.heap.get? c = some { cls := .type "tuple", dict := dd, data := .seq ys m, slots := sl } ∧
      R (.ok (.ret Value.none)) { s with heap := s.heap.update l (Obj.mapSeq fun x => x ++ ys), toks := s.toks }) :=
  .of_wp fun P W A R s w => by
    obtain ⟨hp, gs, dr, tk, os⟩ := s
    obtain ⟨gl, gc, w⟩ := w
    have i1 := AutoSeq1.idx_int
    have i2 := AutoSeq1.sub_tuple_tuple
    have i3 := AutoSeq1.sub_list_list
    have i4 := AutoSeq1.sub_tuple_list
    have i5 := AutoSeq1.sub_list_tuple
    have z : (xs ++ ys).size ≤ sizeLine + 1 := by rw [Array.size_append]; exact h2
    wp_walk using (wpAny_updateSeq gl rfl (hz := h1) (_hz' := z)), wpAny_loadPart' gl, wpAny_loadPart' gc
    exact ⟨_, rfl, w⟩
/-- l.extend(t), t a tuple -/
def rExtT (K : PySem.W.Frag) : V → List V → Hp → VK → Prop := fun x vs H Q => ∃ l b xs zs, x = .ref l ∧ vs = [.ref b] ∧ H l = some (.lst xs) ∧ SqT K H b zs ∧ xs.length + zs.length ≤ 100000 ∧ Q .non (upd H l (.lst (xs ++ zs)))
theorem mt_extT {X : Cx} : MtR X "list.extend" (rExtT X.K) := by
  intro pins s σ H x vs v us Q I rx rv w
  obtain ⟨l, b, xs, zs, rfl, rfl, gl, gt, len, q⟩ := w
  cases rx
  obtain ⟨u, rfl, ru⟩ := rv.one
  cases ru
  obtain ⟨z, its, n, r, hl, e⟩ := I.lstM gl
  obtain ⟨jts, r2, ⟨⟨cl, dd, dat, sl⟩, g2, g3, m, g4⟩, hz2⟩ := I.tuple gt
  simp only at g3 g4
  subst g3 g4
  have hs : (100000 : Nat) ≤ sizeLine := by decide
  have hl2 := r2.length
  have sz : its.toArray.size + jts.toArray.size ≤ sizeLine := by rw [List.size_toArray, List.size_toArray]; omega
  have nl : ¬ (!its.toArray.isEmpty && Builtin.List.listTooLong (its.toArray.size + jts.toArray.size)) = true := by
    rw [notLongL sz, Bool.and_false]
    exact Bool.false_ne_true
  refine call_meets F.slot_list_extend ⟨_, e, rfl⟩ F.entry_list_extend (F.args_list_extend_2 _ _) (ext_tup l its.toArray n b dd sl jts.toArray m nl (by rw [List.size_toArray]; omega) (by omega)) ⟨e, g2, ?_⟩
  refine ⟨.non, _, I.lset (its' := its ++ jts) gl e (by simp) (r.append r2) ?_, rfl, q⟩
  rw [List.length_append]
  omega
end Bm
set_option maxHeartbeats 1000000
/-! what a mill's state is, and what deeds make of it -/
namespace Bm
open PySem L2
structure MS where
  r : List Int
  c : List Int
  z : Bool
  y : Bool
  m : Bool
  p : List Int
  k : List Int
  g : Nat
  a : Nat
  s : List Int
  n : Nat
def MS.new : MS := ⟨List.replicate 8 0, List.replicate 64 0, false, false, false, [], [], 0, 0, [], 0⟩
def isWd (x : Int) : Prop := 0 ≤ x ∧ x < 65536
structure MS.Ok (m : MS) (gs : List Int) : Prop where
  r8 : m.r.length = 8
  c64 : m.c.length = 64
  rw : ∀ x ∈ m.r, isWd x
  cw : ∀ x ∈ m.c, isWd x
  p16 : m.p.length ≤ 16
  pw : ∀ x ∈ m.p, isWd x
  k16 : m.k.length ≤ 16
  kw : ∀ x ∈ m.k, 0 ≤ x
  ga : m.a ≤ gs.length
theorem new_ok (gs : List Int) : MS.Ok MS.new gs := by
  have z : ∀ n, ∀ x ∈ List.replicate n (0 : Int), isWd x := fun n x hx => by
    rw [(List.mem_replicate.mp hx).2]
    exact ⟨by decide, by decide⟩
  exact ⟨rfl, rfl, z 8, z 64, by decide, (fun x hx => by cases hx), by decide, (fun x hx => by cases hx), Nat.zero_le _⟩
def MS.rg (m : MS) (i : Int) : Int := m.r.getD i.toNat 0
theorem bitAnd_nat (x y : Nat) : Builtin.bitAnd (x : Int) (y : Int) = ((x &&& y : Nat) : Int) := rfl
theorem bitOr_nat (x y : Nat) : Builtin.bitOr (x : Int) (y : Int) = ((x ||| y : Nat) : Int) := by rw [Bits.bitOr_pp (Int.natCast_nonneg _) (Int.natCast_nonneg _), Int.toNat_natCast, Int.toNat_natCast]
theorem bitXor_nat (x y : Nat) : Builtin.bitXor (x : Int) (y : Int) = ((x ^^^ y : Nat) : Int) := by rw [Bits.bitXor_pp (Int.natCast_nonneg _) (Int.natCast_nonneg _), Int.toNat_natCast, Int.toNat_natCast]
theorem wd_nat {x : Int} (h : isWd x) : ∃ n : Nat, x = (n : Int) ∧ n < 2 ^ 16 := by
  obtain ⟨n, rfl⟩ := Int.eq_ofNat_of_zero_le h.1
  exact ⟨n, rfl, by have := h.2; omega⟩
theorem wd_of {n : Nat} (h : n < 2 ^ 16) : isWd (n : Int) := ⟨Int.natCast_nonneg _, by have : (2 : Nat) ^ 16 = 65536 := rfl; omega⟩
def oft (b : Int) : Nat := (b % 16).toNat
theorem oft_lt (b : Int) : oft b < 16 := by
  unfold oft
  omega
theorem pow16 {o : Nat} (h : o < 16) : (2 : Int) ^ o = 1 ∨ (2 : Int) ^ o = 2 ∨ (2 : Int) ^ o = 4 ∨ (2 : Int) ^ o = 8 ∨ (2 : Int) ^ o = 16 ∨ (2 : Int) ^ o = 32 ∨ (2 : Int) ^ o = 64 ∨ (2 : Int) ^ o = 128 ∨ (2 : Int) ^ o = 256 ∨ (2 : Int) ^ o = 512 ∨ (2 : Int) ^ o = 1024 ∨ (2 : Int) ^ o = 2048 ∨ (2 : Int) ^ o = 4096 ∨ (2 : Int) ^ o = 8192 ∨ (2 : Int) ^ o = 16384 ∨ (2 : Int) ^ o = 32768 := by
  revert o
  decide +kernel
/-- the word that comes of a deed of two, and its carry -/
def reck (k : Nat) (a b : Int) : Int × Bool := match k with
  | 0 => ((a + b) % 65536, !decide ((a + b) % 65536 = a + b))
  | 1 => ((a - b) % 65536, !decide ((a - b) % 65536 = a - b))
  | 2 => (Builtin.bitAnd a b, false)
  | 3 => (Builtin.bitOr a b, false)
  | 4 => (Builtin.bitXor a b, false)
  | 5 => ((a * 2 ^ oft b) % 65536, !decide ((a * 2 ^ oft b) % 65536 = a * 2 ^ oft b))
  | 6 => (a / 2 ^ oft b, !decide (a / 2 ^ oft b * 2 ^ oft b = a))
  | _ => ((a * 2 ^ oft b) % 65536 + a * 2 ^ oft b / 65536, false)
theorem reck_wd {k : Nat} {a b : Int} (ha : isWd a) (hb : k = 2 ∨ k = 3 ∨ k = 4 → isWd b) : isWd (reck k a b).1 := by
  have md : ∀ x : Int, isWd (x % 65536) := fun x => ⟨by omega, by omega⟩
  have bits : ∀ (f : Nat → Nat → Nat), (∀ x y, x < 2 ^ 16 → y < 2 ^ 16 → f x y < 2 ^ 16) → isWd b → ∀ g : Int → Int → Int, (∀ x y : Nat, g x y = (f x y : Nat)) → isWd (g a b) := fun f hf hb g hg => by
    obtain ⟨x, rfl, hx⟩ := wd_nat ha
    obtain ⟨y, rfl, hy⟩ := wd_nat hb
    rw [hg]
    exact wd_of (hf x y hx hy)
  match k with
  | 0 => exact md _
  | 1 => exact md _
  | 2 => exact bits _ (fun x y hx _ => Nat.lt_of_le_of_lt Nat.and_le_left hx) (hb (.inl rfl)) _ bitAnd_nat
  | 3 => exact bits _ (fun x y hx hy => Nat.or_lt_two_pow hx hy) (hb (.inr (.inl rfl))) _ bitOr_nat
  | 4 => exact bits _ (fun x y hx hy => Nat.xor_lt_two_pow hx hy) (hb (.inr (.inr rfl))) _ bitXor_nat
  | 5 => exact md _
  | 6 =>
    show isWd (a / 2 ^ oft b)
    obtain ⟨h0, h1⟩ := ha
    have h := pow16 (oft_lt b)
    generalize (2 : Int) ^ oft b = e at h
    constructor
    · exact Int.ediv_nonneg h0 (by omega)
    · exact Int.lt_of_le_of_lt (Int.ediv_le_self e h0) h1
  | n + 7 =>
    show isWd ((a * 2 ^ oft b) % 65536 + a * 2 ^ oft b / 65536)
    obtain ⟨h0, h1⟩ := ha
    have h := pow16 (oft_lt b)
    generalize (2 : Int) ^ oft b = e at h
    unfold isWd
    rcases h with rfl | rfl | rfl | rfl | rfl | rfl | rfl | rfl | rfl | rfl | rfl | rfl | rfl | rfl | rfl | rfl <;> omega
/-- the flags and the register that a word comes to -/
def MS.came (m : MS) (d : Int) (w : Int × Bool) : MS := { m with r := m.r.set d.toNat w.1, z := decide (w.1 = 0), y := w.2, m := decide (32767 < w.1) }
def MS.tm (m : MS) (k : Nat) : Bool := match k with
  | 0 => true
  | 1 => m.z
  | 2 => !m.z
  | 3 => m.y
  | 4 => !m.y
  | 5 => m.m
  | _ => !m.m
/-- the place behind a deed of so many words, and one deed more done -/
def MS.past (m : MS) (sz : Nat) : MS := { m with g := m.g + sz, n := m.n + 1 }
/-- what a deed does, the place being behind it -/
def De.act (gs : List Int) (m : MS) : De → MS
  | .sgl k => if k = 2 then { m with g := (m.k.getLastD 0).toNat, k := m.k.dropLast } else m
  | .reg k a => if k = 3 then { m with s := m.s ++ [m.rg a] } else if k = 4 then { m with r := m.r.set a.toNat (gs.getD m.a 0), a := m.a + 1 } else if k = 5 then { m with p := m.p ++ [m.rg a] } else { m with r := m.r.set a.toNat (m.p.getLastD 0), p := m.p.dropLast }
  | .sum k d a b => m.came d (reck k (m.rg a) (m.rg b))
  | .plus d a n => m.came d (reck 0 (m.rg a) n)
  | .set d n => { m with r := m.r.set d.toNat n }
  | .high d n => { m with r := m.r.set d.toNat (n * 512 + m.rg d % 512) }
  | .load d a n => { m with r := m.r.set d.toNat (m.c.getD ((m.rg a + n) % 64).toNat 0) }
  | .store d a n => { m with c := m.c.set ((m.rg a + n) % 64).toNat (m.rg d) }
  | .jump k g _ => if m.tm k = true then { m with g := g.toNat } else m
  | .call g _ => { m with k := m.k ++ [(m.g : Int)], g := g.toNat }
/-- why a deed can't be done -/
def De.hin (gs : List Int) (m : MS) : De → Str
  | .sgl k => if k = 0 then "halt" else if k = 2 then (if m.k.length = 0 then "empty" else "") else ""
  | .reg k _ => if k = 4 then (if m.a = gs.length then "asks" else "") else if k = 5 then (if m.p.length = 16 then "full" else "") else if k = 6 then (if m.p.length = 0 then "empty" else "") else ""
  | .call _ _ => if m.k.length = 16 then "full" else ""
  | _ => ""
theorem str_ne : ("halt" : Str) ≠ "" ∧ ("empty" : Str) ≠ "" ∧ ("asks" : Str) ≠ "" ∧ ("full" : Str) ≠ "" ∧ ("beyond" : Str) ≠ "" ∧ ("none" : Str) ≠ "" := by decide +kernel
theorem set_wd {l : List Int} {i : Nat} {x : Int} (h : ∀ y ∈ l, isWd y) (hx : isWd x) : ∀ y ∈ l.set i x, isWd y := fun y hy => by
  rcases List.mem_or_eq_of_mem_set hy with q | q
  · exact h y q
  · rw [q]; exact hx
theorem getD_wd {l : List Int} (h : ∀ y ∈ l, isWd y) (i : Nat) : isWd (l.getD i 0) := by
  rw [List.getD_eq_getElem?_getD]
  cases q : l[i]? with
  | none => exact ⟨by decide, by decide⟩
  | some x => exact h x (List.mem_of_getElem? q)
theorem last_wd {l : List Int} (h : ∀ y ∈ l, isWd y) : isWd (l.getLastD 0) := by
  cases l with
  | nil => exact ⟨by decide, by decide⟩
  | cons a l =>
    rw [List.getLastD_cons]
    have : (l.getLastD a) ∈ a :: l := by
      rw [← List.getLast_eq_getLastD (h := by simp)]
      exact List.getLast_mem _
    exact h _ this
theorem MS.Ok.reg {m : MS} {gs : List Int} (h : m.Ok gs) (i : Int) : isWd (m.rg i) := getD_wd h.rw _
theorem past_ok {m : MS} {gs : List Int} (h : m.Ok gs) (sz : Nat) : (m.past sz).Ok gs := ⟨h.r8, h.c64, h.rw, h.cw, h.p16, h.pw, h.k16, h.kw, h.ga⟩
theorem came_ok {m : MS} {gs : List Int} (h : m.Ok gs) {d : Int} {w : Int × Bool} (hw : isWd w.1) : (m.came d w).Ok gs := ⟨by show (m.r.set d.toNat w.1).length = 8; rw [List.length_set, h.r8], h.c64, set_wd h.rw hw, h.cw, h.p16, h.pw, h.k16, h.kw, h.ga⟩
theorem MS.Ok.setr {m : MS} {gs : List Int} (h : m.Ok gs) {i : Nat} {x : Int} (hx : isWd x) : MS.Ok { m with r := m.r.set i x } gs := ⟨by rw [List.length_set, h.r8], h.c64, set_wd h.rw hx, h.cw, h.p16, h.pw, h.k16, h.kw, h.ga⟩
theorem act_ok {m : MS} {gs : List Int} {d : De} (h : m.Ok gs) (hd : d.ok) (hg : ∀ x ∈ gs, isWd x) (hh : d.hin gs m = "") : (d.act gs m).Ok gs := by
  obtain ⟨_, s2, s3, s4, _, _⟩ := str_ne
  cases d with
  | sgl k =>
    dsimp only [De.act]
    by_cases c : k = 2
    · rw [if_pos c]
      exact ⟨h.r8, h.c64, h.rw, h.cw, h.p16, h.pw, by rw [List.length_dropLast]; have := h.k16; omega, fun x hx => h.kw x ((List.dropLast_sublist _).subset hx), h.ga⟩
    · rw [if_neg c]
      exact h
  | reg k a =>
    dsimp only [De.act]
    by_cases c3 : k = 3
    · rw [if_pos c3]
      exact ⟨h.r8, h.c64, h.rw, h.cw, h.p16, h.pw, h.k16, h.kw, h.ga⟩
    · rw [if_neg c3]
      by_cases c4 : k = 4
      · rw [if_pos c4]
        have q : m.a ≠ gs.length := fun z => by
          dsimp only [De.hin] at hh
          rw [if_pos c4, if_pos z] at hh
          exact s3 hh
        have h2 := h.setr (i := a.toNat) (getD_wd hg m.a)
        exact ⟨h2.r8, h2.c64, h2.rw, h2.cw, h2.p16, h2.pw, h2.k16, h2.kw, by have := h.ga; show m.a + 1 ≤ _; omega⟩
      · rw [if_neg c4]
        by_cases c5 : k = 5
        · rw [if_pos c5]
          have q : m.p.length ≠ 16 := fun z => by
            dsimp only [De.hin] at hh
            rw [if_neg c4, if_pos c5, if_pos z] at hh
            exact s4 hh
          refine ⟨h.r8, h.c64, h.rw, h.cw, by rw [List.length_append]; have := h.p16; simp; omega, fun x hx => ?_, h.k16, h.kw, h.ga⟩
          rcases List.mem_append.mp hx with z | z
          · exact h.pw x z
          · rw [List.mem_singleton.mp z]
            exact h.reg a
        · rw [if_neg c5]
          have h2 := h.setr (i := a.toNat) (last_wd h.pw)
          exact ⟨h2.r8, h2.c64, h2.rw, h2.cw, by rw [List.length_dropLast]; have := h.p16; omega, fun x hx => h.pw x ((List.dropLast_sublist _).subset hx), h2.k16, h2.kw, h2.ga⟩
  | sum k d a b => exact came_ok h (reck_wd (h.reg a) fun _ => h.reg b)
  | plus d a n => exact came_ok h (reck_wd (h.reg a) fun z => by omega)
  | set d n => exact h.setr ⟨hd.2.1, by have := hd.2.2; omega⟩
  | high d n =>
    refine h.setr ?_
    have h1 := h.reg d
    obtain ⟨_, h2, h3⟩ := hd
    unfold isWd at h1 ⊢
    omega
  | load d a n => exact h.setr (getD_wd h.cw _)
  | store d a n => exact ⟨h.r8, by show (m.c.set _ _).length = 64; rw [List.length_set, h.c64], h.rw, set_wd h.cw (h.reg d), h.p16, h.pw, h.k16, h.kw, h.ga⟩
  | jump k g f =>
    dsimp only [De.act]
    split
    · exact ⟨h.r8, h.c64, h.rw, h.cw, h.p16, h.pw, h.k16, h.kw, h.ga⟩
    · exact h
  | call g f =>
    have q : m.k.length ≠ 16 := fun z => by
      dsimp only [De.hin] at hh
      rw [if_pos z] at hh
      exact s4 hh
    refine ⟨h.r8, h.c64, h.rw, h.cw, h.p16, h.pw, by show (m.k ++ _).length ≤ 16; rw [List.length_append]; have := h.k16; simp; omega, fun x hx => ?_, h.ga⟩
    rcases List.mem_append.mp hx with z | z
    · exact h.kw x z
    · rw [List.mem_singleton.mp z]
      exact Int.natCast_nonneg _
end Bm
/-! a list of deeds at work, and what stands the same -/
namespace Bm
open PySem
/-- it stops after so many, for this reason, having said this -/
inductive Stops (hd : MS → Str) (nx : MS → MS) : Nat → MS → Str → List Int → Prop
  | stop {m : MS} {why : Str} : hd m = why → why ≠ "" → Stops hd nx 0 m why m.s
  | next {m : MS} {c : Nat} {why : Str} {s : List Int} : hd m = "" → Stops hd nx c (nx m) why s → Stops hd nx (c + 1) m why s
/-- side by side -/
theorem Stops.step {hd hd2 : MS → Str} {nx nx2 : MS → MS} (R : MS → MS → Prop) (h1 : ∀ m m2, R m m2 → hd2 m2 = hd m ∧ m2.s = m.s) (h2 : ∀ m m2, R m m2 → hd m = "" → R (nx m) (nx2 m2)) :
    ∀ {c : Nat} {m m2 : MS} {why : Str} {s : List Int}, R m m2 → Stops hd nx c m why s → Stops hd2 nx2 c m2 why s
  | 0, m, m2, why, _, r, .stop h n => by
    obtain ⟨e1, e2⟩ := h1 m m2 r
    rw [← e2]
    exact .stop (e1.trans h) n
  | c + 1, m, m2, why, s, r, .next h t => by
    obtain ⟨e1, _⟩ := h1 m m2 r
    exact .next (e1.trans h) (Stops.step R h1 h2 (h2 m m2 r h) t)
/-- the other may stand still -/
theorem Stops.less {hd hd2 : MS → Str} {nx nx2 : MS → MS} (R : MS → MS → Prop) (h1 : ∀ m m2, R m m2 → hd m ≠ "" → hd2 m2 = hd m ∧ m2.s = m.s) (h2 : ∀ m m2, R m m2 → hd m = "" → R (nx m) m2 ∨ (hd2 m2 = "" ∧ R (nx m) (nx2 m2))) :
    ∀ {c : Nat} {m m2 : MS} {why : Str} {s : List Int}, R m m2 → Stops hd nx c m why s → ∃ c2, c2 ≤ c ∧ Stops hd2 nx2 c2 m2 why s
  | 0, m, m2, why, _, r, .stop h n => by
    obtain ⟨e1, e2⟩ := h1 m m2 r (by rw [h]; exact n)
    refine ⟨0, Nat.le_refl _, ?_⟩
    rw [← e2]
    exact .stop (e1.trans h) n
  | c + 1, m, m2, why, s, r, .next h t => by
    rcases h2 m m2 r h with r2 | ⟨e, r2⟩
    · obtain ⟨c2, l, u⟩ := Stops.less R h1 h2 r2 t
      exact ⟨c2, by omega, u⟩
    · obtain ⟨c2, l, u⟩ := Stops.less R h1 h2 r2 t
      exact ⟨c2 + 1, by omega, .next e u⟩
/-- a deed with its goal told otherwise -/
def putD (d : De) (g : Int) (f : Bool) : De := match d with
  | .jump k _ _ => .jump k g f
  | .call _ _ => .call g f
  | d => d
theorem hin_put (d : De) (g : Int) (f : Bool) (gs : List Int) (m : MS) : (putD d g f).hin gs m = d.hin gs m := by cases d <;> rfl
def dL (x : Ld) : De := putD x.1 (x.2 : Nat) false
def nxtL (ls : List Ld) (gs : List Int) (m : MS) : MS := match ls[m.g]? with
  | none => m
  | some x => (dL x).act gs (m.past 1)
def hindL (ls : List Ld) (gs : List Int) (m : MS) : Str := match ls[m.g]? with
  | none => "beyond"
  | some x => x.1.hin gs m
theorem nxtL_at {ls : List Ld} {gs : List Int} {m : MS} {x : Ld} (h : ls[m.g]? = some x) : nxtL ls gs m = (dL x).act gs (m.past 1) := by
  unfold nxtL
  rw [h]
theorem hindL_at {ls : List Ld} {gs : List Int} {m : MS} {x : Ld} (h : ls[m.g]? = some x) : hindL ls gs m = x.1.hin gs m := by
  unfold hindL
  rw [h]
theorem beyond_ne : ("beyond" : Str) ≠ "" := by decide +kernel
/-! places told otherwise -/
def reK (f : Nat → Nat) (l : List Int) : List Int := l.map fun i => ((f i.toNat : Nat) : Int)
def relab (f : Nat → Nat) (m : MS) (n : Nat) : MS := { m with g := f m.g, k := reK f m.k, n := n }
theorem hin_relab (f : Nat → Nat) (d : De) (gs : List Int) (m : MS) (n : Nat) : d.hin gs (relab f m n) = d.hin gs m := by
  have e : (relab f m n).k.length = m.k.length := List.length_map ..
  cases d with
  | sgl k => dsimp only [De.hin]; rw [e]
  | call g t => dsimp only [De.hin]; rw [e]
  | _ => rfl
theorem last_map (f : Nat → Nat) : ∀ {l : List Int}, l.length ≠ 0 → ((reK f l).getLastD 0).toNat = f (l.getLastD 0).toNat := fun {l} h => by
  have : l ≠ [] := fun e => h (by rw [e]; rfl)
  rw [← List.dropLast_concat_getLast this]
  unfold reK
  rw [List.map_append, List.map_cons, List.map_nil, List.getLastD_concat, List.getLastD_concat]
  exact Int.toNat_natCast _
theorem drop_map (f : Nat → Nat) (l : List Int) : (reK f l).dropLast = reK f l.dropLast := List.map_dropLast.symm
theorem ne_empty : ("empty" : Str) ≠ "" := by decide +kernel
theorem act_relab {f : Nat → Nat} {gs : List Int} {m : MS} {n sz : Nat} {x : Ld} {b : Bool} (hs : f (m.g + 1) = f m.g + sz) (hh : x.1.hin gs m = "") :
    (putD x.1 (f x.2 : Nat) b).act gs ((relab f m n).past sz) = relab f ((dL x).act gs (m.past 1)) (n + 1) := by
  have e0 : (relab f m n).past sz = relab f (m.past 1) (n + 1) := by
    show ({ m with g := f m.g + sz, k := reK f m.k, n := n + 1 } : MS) = { m with g := f (m.g + 1), k := reK f m.k, n := n + 1 }
    rw [hs]
  rw [e0]
  obtain ⟨d, t⟩ := x
  cases d with
  | sgl k =>
    show (De.sgl k).act gs _ = relab f ((De.sgl k).act gs _) _
    dsimp only [De.act]
    by_cases c : k = 2
    · rw [if_pos c, if_pos c]
      have hl : m.k.length ≠ 0 := fun z => by
        have hh : (De.sgl k).hin gs m = "" := hh
        dsimp only [De.hin] at hh
        rw [if_neg (by omega), if_pos c, if_pos z] at hh
        exact ne_empty hh
      show ({ relab f (m.past 1) (n + 1) with g := ((reK f m.k).getLastD 0).toNat, k := (reK f m.k).dropLast } : MS) = { m with g := f (m.k.getLastD 0).toNat, k := reK f m.k.dropLast, n := n + 1 }
      rw [last_map f hl, drop_map]
      rfl
    · rw [if_neg c, if_neg c]
  | reg k a =>
    show (De.reg k a).act gs _ = relab f ((De.reg k a).act gs _) _
    dsimp only [De.act]
    by_cases c3 : k = 3
    · rw [if_pos c3, if_pos c3]; rfl
    · rw [if_neg c3, if_neg c3]
      by_cases c4 : k = 4
      · rw [if_pos c4, if_pos c4]; rfl
      · rw [if_neg c4, if_neg c4]
        by_cases c5 : k = 5
        · rw [if_pos c5, if_pos c5]; rfl
        · rw [if_neg c5, if_neg c5]; rfl
  | jump k g fa =>
    show (De.jump k (f t : Nat) b).act gs _ = relab f ((De.jump k (t : Nat) false).act gs _) _
    have e : ∀ M : MS, (relab f M (n + 1)).tm k = M.tm k := fun M => by
      unfold MS.tm
      rfl
    dsimp only [De.act]
    rw [e]
    by_cases c : (m.past 1).tm k = true
    · rw [if_pos c, if_pos c]
      rfl
    · rw [if_neg c, if_neg c]
  | call g fa =>
    show (De.call (f t : Nat) b).act gs _ = relab f ((De.call (t : Nat) false).act gs _) _
    show ({ relab f (m.past 1) (n + 1) with k := reK f m.k ++ [((f (m.g + 1) : Nat) : Int)], g := f t } : MS) = { m with g := f t, k := reK f (m.k ++ [((m.g + 1 : Nat) : Int)]), n := n + 1 }
    unfold reK
    rw [List.map_append]
    rfl
  | _ => rfl
/-! led on -/
theorem endF_chain {ls : List Ld} : ∀ {n g e : Nat}, endF ls n g = some e → ∃ j, (∀ i, i < j → isAj ls (itL ls i g) = true) ∧ itL ls j g = e
  | 0, g, e, h => by cases h
  | n + 1, g, e, h => by
    unfold endF at h
    cases c : ls[g]? with
    | none =>
      rw [c] at h
      exact ⟨0, fun i hi => absurd hi (Nat.not_lt_zero _), Option.some.inj h⟩
    | some x =>
      rw [c] at h
      simp only at h
      by_cases d : ajL x = true
      · rw [if_pos d] at h
        obtain ⟨j, h1, h2⟩ := endF_chain h
        have et : tgt ls g = x.2 := by unfold tgt; rw [c]
        refine ⟨j + 1, fun i hi => ?_, ?_⟩
        · cases i with
          | zero => show isAj ls g = true; unfold isAj; rw [c]; exact d
          | succ i =>
            show isAj ls (itL ls i (tgt ls g)) = true
            rw [et]
            exact h1 i (by omega)
        · show itL ls j (tgt ls g) = e
          rw [et]
          exact h2
      · rw [if_neg d] at h
        exact ⟨0, fun i hi => absurd hi (Nat.not_lt_zero _), Option.some.inj h⟩
def LedR (ls : List Ld) (m m2 : MS) : Prop := endL ls m.g = none ∨ ∃ j, (∀ i, i < j → isAj ls (itL ls i m.g) = true) ∧ m2 = { m with g := itL ls j m.g, n := m2.n }
theorem aj_jump {x : Ld} (h : ajL x = true) : ∃ g f, x.1 = .jump 0 g f := by
  unfold ajL at h
  split at h
  · rename_i e
    exact ⟨_, _, e⟩
  · cases h
theorem aj_step {ls : List Ld} {gs : List Int} {m : MS} (h : isAj ls m.g = true) : hindL ls gs m = "" ∧ nxtL ls gs m = { m with g := tgt ls m.g, n := m.n + 1 } := by
  unfold isAj at h
  cases c : ls[m.g]? with
  | none => rw [c] at h; cases h
  | some x =>
    rw [c] at h
    obtain ⟨g, f, e⟩ := aj_jump h
    have et : tgt ls m.g = x.2 := by unfold tgt; rw [c]
    rw [hindL_at c, nxtL_at c, et]
    unfold dL
    rw [e]
    exact ⟨rfl, rfl⟩
theorem led_stops {ls : List Ld} {gs : List Int} {c : Nat} {m m2 : MS} {why : Str} {s : List Int} (r : LedR ls m m2) (h : Stops (hindL ls gs) (nxtL ls gs) c m why s) : ∃ c2, c2 ≤ c ∧ Stops (hindL (ledA ls) gs) (nxtL (ledA ls) gs) c2 m2 why s := by
  refine Stops.less (LedR ls) (fun m m2 r hh => ?_) (fun m m2 r hh => ?_) r h
  · rcases r with e | ⟨j, h1, h2⟩
    · exact absurd (aj_step (ever e 0)).1 hh
    · cases j with
      | succ j => exact absurd (aj_step (h1 0 (Nat.succ_pos _))).1 hh
      | zero =>
        have h2 : m2 = { m with g := m.g, n := m2.n } := h2
        have eg : m2.g = m.g := by rw [h2]
        refine ⟨?_, by rw [h2]⟩
        unfold hindL
        rw [eg, ledA_at]
        cases c : ls[m.g]? with
        | none => rfl
        | some x =>
          show (ledL ls m.g x).1.hin gs m2 = x.1.hin gs m
          rw [led_fst, h2]
          cases x.1 <;> rfl
  · by_cases hn : endL ls m.g = none
    · refine .inl (.inl ?_)
      rw [(aj_step (gs := gs) (ever hn 0)).2]
      refine ever_iff.mpr fun n => ?_
      exact ever hn (n + 1)
    · rcases r with e | ⟨j, h1, h2⟩
      · exact absurd e hn
      · cases j with
        | succ j =>
          refine .inl (.inr ⟨j, fun i hi => ?_, ?_⟩)
          · rw [(aj_step (gs := gs) (h1 0 (Nat.succ_pos _))).2]
            exact h1 (i + 1) (by omega)
          · rw [(aj_step (gs := gs) (h1 0 (Nat.succ_pos _))).2]
            exact h2
        | zero =>
          have h2 : m2 = { m with g := m.g, n := m2.n } := h2
          have eg : m2.g = m.g := by rw [h2]
          cases c : ls[m.g]? with
          | none =>
            unfold hindL at hh
            rw [c] at hh
            exact absurd hh beyond_ne
          | some x =>
            have c2 : (ledA ls)[m2.g]? = some (ledL ls m.g x) := by rw [eg, ledA_at, c]; rfl
            rw [hindL_at c] at hh
            refine .inr ⟨?_, ?_⟩
            · rw [hindL_at c2, led_fst, h2]
              have : ∀ d : De, d.hin gs { m with g := m.g, n := m2.n } = d.hin gs m := fun d => by cases d <;> rfl
              rw [this]
              exact hh
            · rw [nxtL_at c, nxtL_at c2]
              -- the same deed, but for its goal
              have goal_ : ∀ t : Nat, (ledL ls m.g x).2 = t → x.1.goes = true → endL ls x.2 = none ∨ ∃ j, (∀ i, i < j → isAj ls (itL ls i x.2) = true) ∧ itL ls j x.2 = t := fun t ht hg => by
                unfold ledL at ht
                rw [if_pos hg] at ht
                cases ee : endL ls x.2 with
                | none => exact .inl rfl
                | some e =>
                  rw [ee] at ht
                  obtain ⟨j, k1, k2⟩ := endF_chain (show endF ls (ls.length + 1) x.2 = some e from ee)
                  exact .inr ⟨j, k1, k2.trans ht⟩
              have e1 := led_fst ls m.g x
              generalize hy : ledL ls m.g x = y at goal_ e1
              obtain ⟨d2, t2⟩ := y
              have e1 : d2 = x.1 := e1
              subst e1
              obtain ⟨d, t⟩ := x
              have goal_ := goal_ t2 rfl
              have same_ : ∀ M : MS, LedR ls M { M with n := m2.n + 1 } := fun M => .inr ⟨0, fun i hi => absurd hi (Nat.not_lt_zero _), rfl⟩
              have ep : m2.past 1 = { m.past 1 with n := m2.n + 1 } := by rw [h2]; rfl
              rw [ep]
              cases d with
              | jump k g f =>
                have goal_ := goal_ rfl
                show LedR ls ((De.jump k (t : Nat) false).act gs (m.past 1)) ((De.jump k (t2 : Nat) false).act gs { m.past 1 with n := m2.n + 1 })
                dsimp only [De.act]
                have et : MS.tm { m.past 1 with n := m2.n + 1 } k = (m.past 1).tm k := rfl
                rw [et]
                by_cases ct : (m.past 1).tm k = true
                · rw [if_pos ct, if_pos ct]
                  rcases goal_ with z | ⟨j, k1, k2⟩
                  · exact .inl z
                  · refine .inr ⟨j, k1, ?_⟩
                    show ({ m.past 1 with n := m2.n + 1, g := t2 } : MS) = { m.past 1 with g := itL ls j t, n := m2.n + 1 }
                    have k2 : itL ls j t = t2 := k2
                    rw [k2]
                · rw [if_neg ct, if_neg ct]
                  exact same_ _
              | call g f =>
                have goal_ := goal_ rfl
                rcases goal_ with z | ⟨j, k1, k2⟩
                · exact .inl z
                · refine .inr ⟨j, k1, ?_⟩
                  have k2 : itL ls j t = t2 := k2
                  show ({ m.past 1 with n := m2.n + 1, k := m.k ++ [((m.g + 1 : Nat) : Int)], g := t2 } : MS) = { m.past 1 with k := m.k ++ [((m.g + 1 : Nat) : Int)], g := itL ls j t, n := m2.n + 1 }
                  rw [k2]
              | sgl k =>
                show LedR ls ((De.sgl k).act gs (m.past 1)) ((De.sgl k).act gs { m.past 1 with n := m2.n + 1 })
                dsimp only [De.act]
                by_cases ck : k = 2
                · rw [if_pos ck, if_pos ck]
                  exact same_ _
                · rw [if_neg ck, if_neg ck]
                  exact same_ _
              | reg k a =>
                show LedR ls ((De.reg k a).act gs (m.past 1)) ((De.reg k a).act gs { m.past 1 with n := m2.n + 1 })
                dsimp only [De.act]
                by_cases c3 : k = 3
                · rw [if_pos c3, if_pos c3]; exact same_ _
                · rw [if_neg c3, if_neg c3]
                  by_cases c4 : k = 4
                  · rw [if_pos c4, if_pos c4]; exact same_ _
                  · rw [if_neg c4, if_neg c4]
                    by_cases c5 : k = 5
                    · rw [if_pos c5, if_pos c5]; exact same_ _
                    · rw [if_neg c5, if_neg c5]; exact same_ _
              | sum k d a b => exact same_ ((De.sum k d a b).act gs (m.past 1))
              | plus d a n => exact same_ ((De.plus d a n).act gs (m.past 1))
              | set d n => exact same_ ((De.set d n).act gs (m.past 1))
              | high d n => exact same_ ((De.high d n).act gs (m.past 1))
              | load d a n => exact same_ ((De.load d a n).act gs (m.past 1))
              | store d a n => exact same_ ((De.store d a n).act gs (m.past 1))
end Bm
set_option maxHeartbeats 800000
namespace Bm
open PySem PySem.Spec PyProof.Rows L2
def wholeD (sz : List Nat) (k : Nat) (x : Ld) : De := putD x.1 (lay sz x.2 : Nat) (decide (sz[k]? = some 2))
def szL (ls : List Ld) : List Nat := wEnd (ls.map goL)
def imgI (ls : List Ld) (i : Nat) : List Int := ((ls.take i).mapIdx fun k x => (wholeD (szL ls) k x).words (lay (szL ls) k : Nat)).flatten
/-- the words of a list -/
def imgL (ls : List Ld) : List Int := imgI ls ls.length
def sizeL (ls : List Ld) : Nat := lay (szL ls) ls.length
theorem wEnd_still (gs : List (Option Nat)) : ∀ k, farAt gs (wEnd gs) k = false := by
  rcases wN_ones gs (gs.length + 1) with h2 | ⟨m, h1, h2⟩
  · omega
  · rw [← wEnd_of h2]
    exact h2
theorem wEnd_len (gs : List (Option Nat)) : (wEnd gs).length = gs.length := wN_len gs _
theorem szL_len (ls : List Ld) : (szL ls).length = ls.length := by
  unfold szL
  rw [wEnd_len, List.length_map]
theorem szL_two (ls : List Ld) : ∀ x ∈ szL ls, x = 1 ∨ x = 2 := wN_two _ _
theorem szL_le (ls : List Ld) : ∀ x ∈ szL ls, x ≤ 2 := fun x hx => by
  rcases szL_two ls x hx with e | e <;> omega
theorem wN_one {gs : List (Option Nat)} {k : Nat} (h : gs[k]? = some none) : ∀ n, (wN gs n)[k]? = some 1
  | 0 => by
    have hk := (List.getElem?_eq_some_iff.mp h).1
    show (List.replicate gs.length 1)[k]? = _
    rw [List.getElem?_replicate, if_pos hk]
  | n + 1 => by
    have ih := wN_one h n
    have hk := (List.getElem?_eq_some_iff.mp ih).1
    show (wstep gs (wN gs n))[k]? = _
    have hf : farAt gs (wN gs n) k = false := by
      unfold farAt
      rw [h]
    rw [wstep_at hk, hf, List.getD_eq_getElem?_getD, ih]
    rfl
theorem whole_words {ls : List Ld} {k : Nat} {x : Ld} (hx : ls[k]? = some x) (p : Int) : ∃ s, (szL ls)[k]? = some s ∧ ((wholeD (szL ls) k x).words p).length = s := by
  have hk := (List.getElem?_eq_some_iff.mp hx).1
  have hs := List.getElem?_eq_getElem (show k < (szL ls).length by rw [szL_len]; exact hk)
  generalize (szL ls)[k]'_ = s at hs
  have h2 := szL_two ls s (List.mem_of_getElem? hs)
  refine ⟨s, hs, ?_⟩
  unfold wholeD
  rw [hs]
  obtain ⟨d, n⟩ := x
  have one_ : d.goes = false → s = 1 := fun hg => by
    have : (szL ls)[k]? = some 1 := wN_one (by rw [List.getElem?_map, hx]; show some (goL (d, n)) = _; unfold goL; rw [if_neg (by rw [hg]; decide)]) _
    rw [hs] at this
    exact Option.some.inj this
  cases d with
  | jump j g f =>
    rcases h2 with rfl | rfl
    · rfl
    · rfl
  | call g f =>
    rcases h2 with rfl | rfl
    · rfl
    · rfl
  | _ => rw [one_ rfl]; rfl
theorem whole_ok {ls : List Ld} {k : Nat} {x : Ld} (h : x.1.ok) (hl : ls.length ≤ 1000) : (wholeD (szL ls) k x).ok := by
  have hb : lay (szL ls) x.2 ≤ 2000 := by
    have := lay_le (szL_le ls) x.2
    rw [szL_len] at this
    omega
  unfold wholeD
  obtain ⟨d, n⟩ := x
  cases d with
  | jump j g f => exact ⟨h.1, by omega, by show ((lay (szL ls) n : Nat) : Int) ≤ 65535; have hb : lay (szL ls) n ≤ 2000 := hb; omega⟩
  | call g f => exact ⟨by omega, by show ((lay (szL ls) n : Nat) : Int) ≤ 65535; have hb : lay (szL ls) n ≤ 2000 := hb; omega⟩
  | _ => exact h
theorem whole_reached {ls : List Ld} {k : Nat} {x : Ld} (hx : ls[k]? = some x) : (wholeD (szL ls) k x).reached (lay (szL ls) k : Nat) := by
  have hf := wEnd_still (ls.map goL) k
  have hf : farAt (ls.map goL) (szL ls) k = false := hf
  have hk := (List.getElem?_eq_some_iff.mp hx).1
  have hs := List.getElem?_eq_getElem (show k < (szL ls).length by rw [szL_len]; exact hk)
  generalize (szL ls)[k]'_ = s at hs
  have h2 := szL_two ls s (List.mem_of_getElem? hs)
  have near_ : x.1.goes = true → s = 1 → near (lay (szL ls) x.2 : Nat) (lay (szL ls) k : Nat) := fun hg h1 => by
    unfold farAt at hf
    rw [List.getElem?_map, hx] at hf
    have eg : goL x = some x.2 := by unfold goL; rw [if_pos hg]
    have hf : (match some (goL x) with
      | some (some g) => decide ((szL ls)[k]? = some 1) && !decide (-16 ≤ (lay (szL ls) g : Int) - lay (szL ls) k - 1 ∧ (lay (szL ls) g : Int) - lay (szL ls) k - 1 ≤ 15)
      | _ => false) = false := hf
    rw [eg, hs, h1] at hf
    simp only [decide_true, Bool.true_and, Bool.not_eq_false', decide_eq_true_eq] at hf
    exact hf
  unfold wholeD
  rw [hs]
  obtain ⟨d, n⟩ := x
  cases d with
  | jump j g f =>
    rcases h2 with e | e
    · rw [e]
      exact near_ rfl e
    · rw [e]
      exact trivial
  | call g f =>
    rcases h2 with e | e
    · rw [e]
      exact near_ rfl e
    · rw [e]
      exact trivial
  | _ => exact trivial
theorem whole_vals {x : Ld} {a : Int} {b : Bool} (h : x.1.goes = true) : cutV (itemV x) none (some (-1)) ++ [.int a, .bl b] = (putD x.1 a b).vals := by
  obtain ⟨d, m⟩ := x
  cases d with
  | jump k g f => rw [cut_m1 (by show 1 ≤ 3; decide)]; rfl
  | call g f => rw [cut_m1 (by show 1 ≤ 2; decide)]; rfl
  | _ => cases h
theorem still_vals {x : Ld} {a : Int} {b : Bool} (h : x.1.goes = false) : itemV x = (putD x.1 a b).vals := by
  obtain ⟨d, m⟩ := x
  cases d with
  | jump k g f => cases h
  | call g f => cases h
  | _ => rfl
theorem imgI_next {ls : List Ld} {i : Nat} {x : Ld} (hx : ls[i]? = some x) : imgI ls (i + 1) = imgI ls i ++ (wholeD (szL ls) i x).words (lay (szL ls) i : Nat) := by
  have hi := (List.getElem?_eq_some_iff.mp hx).1
  unfold imgI
  rw [take_succ' hx, List.mapIdx_append, List.flatten_append, List.length_take, Nat.min_eq_left (Nat.le_of_lt hi)]
  simp
theorem imgI_len {ls : List Ld} : ∀ i, i ≤ ls.length → (imgI ls i).length = lay (szL ls) i
  | 0, _ => rfl
  | i + 1, h => by
    have hx := List.getElem?_eq_getElem (show i < ls.length by omega)
    obtain ⟨s, h1, h2⟩ := whole_words hx (lay (szL ls) i : Nat)
    rw [imgI_next hx, List.length_append, imgI_len i (by omega), h2, lay_next h1]
theorem imgL_len (ls : List Ld) : (imgL ls).length = sizeL ls := imgI_len _ (Nat.le_refl _)
theorem spots_at {sz : List Nat} {k : Nat} (h : k ≤ sz.length) : atI (vNat (spots sz)) ((k : Nat) : Int) = some (.int (lay sz k : Nat)) := atI_nat (by
  unfold vNat spots
  rw [List.getElem?_map, List.getElem?_map, List.getElem?_range (by omega)]
  rfl)
theorem rep_one (m : Nat) : (List.replicate m [V.int 1]).flatten = vNat (List.replicate m 1) := by
  induction m with
  | zero => rfl
  | succ m ih =>
    rw [List.replicate_succ, List.replicate_succ, List.flatten_cons, ih]
    rfl
theorem goL_le {ls : List Ld} (ok : OkL ls) : ∀ g, some g ∈ ls.map goL → g ≤ (ls.map goL).length := fun g hg => by
  obtain ⟨x, hx, e⟩ := List.mem_map.mp hg
  unfold goL at e
  by_cases c : x.1.goes = true
  · rw [if_pos c] at e
    rw [← Option.some.inj e, List.length_map]
    exact ok x hx c
  · rw [if_neg c] at e
    cases e
section
variable {P : Program} {w : World} {K : PySem.W.Frag} {mg : Str → Option Value} {base : Heap} {f : Addr} {fd : FuncData} {dvs : List V} {odd : List Str}
abbrev KnWof (P : Program) (w : World) (K : PySem.W.Frag) (mg : Str → Option Value) (base : Heap) : Prop := Kn P w K mg base CX0 3 "words_of" ["deed", "place"] [] (spWordsOf K)
def spImage (K : PySem.W.Frag) (odd : List Str) : Sp := fun vs H Q E => ∃ (a : Addr) (rs : List V) (xss : List (List V)), vs = [.ref a] ∧ SqL K H a rs ∧ TupsV K H rs xss ∧ (∀ xs ∈ xss, RowV K odd H xs) ∧ xss.length ≤ 1000 ∧
  (GoodR xss → ∃ ls, xss = ls.map itemV ∧ Lst K H rs ls ∧ (sizeL ls ≤ 200 → ∀ t H', Same H H' → SqT K H' t (vInts (imgL ls)) → Q (.ref t) H') ∧ (200 < sizeL ls → RaisedNo K "BadList" E H ls.length)) ∧ ∀ j, BadR xss j → RaisedNo K "BadList" E H j
abbrev KnImage (P : Program) (w : World) (K : PySem.W.Frag) (mg : Str → Option Value) (base : Heap) (odd : List Str) : Prop := Kn P w K mg base (L2.CX P w) 6 "image_of" ["deeds"] [] (spImage K odd)
end
end Bm
set_option maxHeartbeats 800000
namespace Bm
open PySem PySem.Spec PyProof.Rows L2
theorem ints_layL : ∀ l : List Int, PyData.canLayAll0 (l.map PyData.int) = true ∧ PyData.depthAll (l.map PyData.int) = 0
  | [] => by simp [PyData.canLayAll0, PyData.depthAll]
  | x :: l => by
    obtain ⟨h1, h2⟩ := ints_layL l
    simp [PyData.canLayAll0, PyData.depthAll, PyData.canLay0, PyData.depth, h1, h2]
theorem ints_shapedL (l : List Int) : SeqAt.shaped (.tuple (l.map PyData.int)) = true := by
  obtain ⟨h1, h2⟩ := ints_layL l
  unfold SeqAt.shaped
  simp only [PyData.canLay0, PyData.depth, h1, h2, Bool.true_and]
  decide
theorem ints_eqvL : ∀ a b : List Int, PyData.eqvAll (a.map PyData.int) (b.map PyData.int) = decide (a = b)
  | [], [] => by simp [PyData.eqvAll]
  | [], _ :: _ => by simp [PyData.eqvAll]
  | _ :: _, [] => by simp [PyData.eqvAll]
  | x :: a, y :: b => by
    simp only [List.map_cons, PyData.eqvAll, PyData.eqv, ints_eqvL a b]
    by_cases h : x = y
    · subst h
      simp
    · simp [h]
theorem dp_intsL {K : PySem.W.Frag} {H : Hp} : ∀ l : List Int, DpAll K H (vInts l) (l.map PyData.int)
  | [] => .nil
  | x :: l => .cons (.int x) (dp_intsL l)
theorem numS_okv {K : PySem.W.Frag} {H : Hp} {v : V} (h : numS v = true) : OkV K H v := by
  cases v with
  | int i => exact .int i
  | str s => exact .str s
  | _ => cases h
theorem item_same_head (x : Ld) : ∃ z r r', itemV x = .str z :: r ∧ x.1.vals = .str z :: r' := by
  obtain ⟨d, n⟩ := x
  cases d <;> exact ⟨_, _, _, rfl, rfl⟩
/-- a good row may be told -/
theorem item_row {K : PySem.W.Frag} {H : Hp} {odd : List Str} {x : Ld} (h : x.1.ok) : RowV K odd H (itemV x) := by
  have hn := item_numS h
  refine ⟨fun v hv => numS_okv (List.all_eq_true.mp hn v hv), fun z r e => .inl ?_, fun v hv => ?_, by have := item_short x; omega⟩
  · obtain ⟨z2, r2, r3, e1, e2⟩ := item_same_head x
    have hd := deed_vals h
    rw [e2] at hd
    rw [e1] at e
    rw [← V.str.inj (List.cons.inj e).1]
    exact deed_name hd
  · have h2 := List.all_eq_true.mp hn v hv
    cases v with
    | str s => exact h2
    | _ => rfl
theorem items_rows {K : PySem.W.Frag} {H : Hp} {odd : List Str} {ls : List Ld} (h : ∀ x ∈ ls, x.1.ok) : ∀ xs ∈ ls.map itemV, RowV K odd H xs := fun xs hxs => by
  obtain ⟨x, hx, rfl⟩ := List.mem_map.mp hxs
  exact item_row (h x hx)
end Bm
set_option maxHeartbeats 800000
namespace Bm
open PySem PySem.Spec PyProof.Rows L2
theorem tup_putLq {K : PySem.W.Frag} {H : Hp} {D a : Addr} {rs xs : List V} {o : HO} (hD : H D = some (.lst rs)) (h : SqT K H a xs) : SqT K (upd H D o) a xs := by
  have n : ∀ {u}, H a = some u → (∀ l, u ≠ .lst l) → a ≠ D := fun e q z => by
    rw [z, hD] at e
    exact q _ (Option.some.inj e).symm
  rcases h with (h | ⟨u, h⟩) | h
  · exact .inl (.inl (by rw [upd_ne (n h (fun l z => by cases z))]; exact h))
  · exact .inl (.inr ⟨u, by rw [upd_ne (n h (fun l z => by cases z))]; exact h⟩)
  · exact .inr h
theorem line_ltL {n : Nat} (h : n < 100000) : n < sizeLine := Nat.lt_of_lt_of_le h (by decide)
theorem cut_m2 {xs : List V} (h : 2 ≤ xs.length) : cutV xs none (some (-2)) = xs.take (xs.length - 2) := by
  have e : HT.sIx xs.length xs.length (some (-2)) = xs.length - 2 := by
    show (if (-2 : Int) < 0 then (-2 + (xs.length : Int)).toNat else min (-2 : Int).toNat xs.length) = _
    rw [if_pos (by decide)]
    omega
  unfold cutV
  rw [e]
  rfl
theorem goal_len {d : De} {g : Int} (h : d.goal = some g) : 2 ≤ d.vals.length := by
  cases d with
  | jump k g' f => exact (by decide : 2 ≤ 4)
  | call g' f => exact (by decide : 2 ≤ 3)
  | _ => cases h
theorem sp_at {sp : List Int} (hb : ∀ x ∈ sp, 0 ≤ x ∧ x ≤ 2000) {j : Nat} (h : j < sp.length) : ∃ a : Int, atI (vInts sp) ((j : Nat) : Int) = some (.int a) ∧ 0 ≤ a ∧ a ≤ 2000 := by
  refine ⟨sp[j], atI_nat ?_, hb _ (List.getElem_mem h)⟩
  unfold vInts
  rw [List.getElem?_map, List.getElem?_eq_getElem h]
  rfl
theorem rep_int (k : Int) (m : Nat) : (List.replicate m [V.int k]).flatten = vInts (List.replicate m k) := by
  induction m with
  | zero => rfl
  | succ m ih =>
    rw [List.replicate_succ, List.replicate_succ, List.flatten_cons, ih]
    rfl
section
variable {P : Program} {w : World} {K : PySem.W.Frag} {mg : Str → Option Value} {base : Heap} {f : Addr} {fd : FuncData} {dvs : List V}
abbrev KnLd (P : Program) (w : World) (K : PySem.W.Frag) (mg : Str → Option Value) (base : Heap) : Prop := Kn P w K mg base CX0 3 "_law_deed" ["_law_state_here", "_law_place", "_law_most"] [] (spLDeed K)
def ItemsOk (ls : List (De × Nat)) (n : Nat) : Prop := ∀ x ∈ ls, x.1.ok ∧ x.2 ≤ n
def spList (K : PySem.W.Frag) : Sp := fun vs H Q _ => ∃ (S : Sk) (m : Nat), vs = [.ref S.st, .int (m : Nat)] ∧ St K H S ∧ m ≤ 1000 ∧ ∀ D rs ls H', Kp K S H H' → H D = none → D ≠ S.st → H' D = some (.lst rs) → TupsV K H' rs (ls.map itemV) → ItemsOk ls ls.length → ls.length ≤ m → Q (.ref D) H'
abbrev N__law_list : List Str := ["_law_state_here", "_law_most", "_law_many", "_law_found", "_law_k", "_law_deed_here", "_law_there"]
theorem sc__law_list : FnScope ["_law_state_here", "_law_most", "_law_many", "_law_found", "_law_k", "_law_deed_here", "_law_there"] ["_law_state_here", "_law_most"] (defScope s__law_list) := ⟨rfl, rfl, rfl, by decide +kernel, rfl, by decide +kernel, by decide +kernel⟩
theorem ok_list (F : FunD K "_law_list" "_law_list" (defArgs s__law_list) (defBody s__law_list) (defScope s__law_list) dvs [] f fd) (k__law_drawn : KnDr P w K mg base) (k__law_deed : KnLd P w K mg base) (g_range : mg "range" = none) (g_min : mg "min" = none) : FnOk P w K mg base CX0 4 f fd ["_law_state_here", "_law_most"] (spList K) := by
  refine F.ok sc__law_list (fun vs H Q E h => ?_) (fun cdv A outer s H vs Q E hr h => ?_)
  · obtain ⟨S, m, rfl, _⟩ := h
    rfl
  · obtain ⟨S, m, rfl, hst, hm, q⟩ := h
    refine ⟨_, PSs.nox (pss_cons (ps_set (i := 2) sc__law_list.nd rfl (Or.inl rfl) (pk k__law_drawn hr (by decide) rfl pass0 (pa_cons (pv 0) (pa_cons (pe_op op_add (pv 1) pe_int) pa_nil))))
      (pss_cons (ps_set (i := 3) sc__law_list.nd rfl (Or.inl rfl) (pe_lst pa_nil))
      (pss_cons (ps_for PassesOwn.never rfl (pi_range1 rfl g_range (pa_cons (pv 2) pa_nil)) (pg_name (i := 4) sc__law_list.nd rfl (Or.inl rfl))
      (pss_cons (ps_set (i := 5) sc__law_list.nd rfl (Or.inl rfl) (pk k__law_deed hr (by decide) rfl pass0 (pa_cons (pv 0) (pa_cons pe_int (pa_cons pe_int pa_nil)))))
      (pss_cons (ps_if (pt_cmpR op_in_seq (pe_ix ix_tup (pv 5) pe_int (fun _ _ => rfl)) (pe_tup (pa_cons pe_str (pa_cons pe_str pa_nil))) rfl) (pss_cons (ps_set (i := 6) sc__law_list.nd rfl (Or.inl rfl) (pe_ix ix_list (pe_lst (pa_cons (pk k__law_drawn hr (by decide) rfl pass0 (pa_cons (pv 0) (pa_cons (pe_op op_add (pv 2) pe_int) pa_nil))) (pa_cons (pe_callB (call_min2 rfl) rfl g_min (by decide +kernel) (pa_cons (pv 2) (pa_cons (pe_op op_add (pv 4) (pk k__law_drawn hr (by decide) rfl pass0 (pa_cons (pv 0) (pa_cons pe_int pa_nil)))) pa_nil))) pa_nil))) (pk k__law_drawn hr (by decide) rfl pass0 (pa_cons (pv 0) (pa_cons pe_int pa_nil))) (fun _ _ => rfl)))
      (pss_one (ps_set (i := 5) sc__law_list.nd rfl (Or.inl rfl) (pe_op op_catA (pe_slice sl_tupA (pv 5) po_none (po_some (pe_un un_neg pe_int))) (pe_tup (pa_cons (pv 6) pa_nil)))))) pss_nil)
      (pss_one (ps_expr (pe_bm PySem.F.plainAttrs_list PySem.F.slot_list_append PySem.F.type_list_append mt_append (pv 3) (pa_cons (pv 5) pa_nil)))))))
      (pss_one (ps_ret (pv 3)))))), ?_⟩
    refine ⟨_, rfl, _, rfl, _, _, rfl, rfl, S, _, rfl, hst, by omega, by omega, fun r1 H1 r10 r11 k1 => ?_⟩
    obtain ⟨n, rfl⟩ := Int.eq_ofNat_of_zero_le r10
    refine ⟨line5 (by simp), fun L hL => ?_⟩
    have nL : L ≠ S.st := by
      obtain ⟨l, hl⟩ := k1.st.lst
      exact Ne.symm (ne_of_none hl hL)
    have hL0 : H L = none := k1.free hL
    have s2 : Same H1 (upd H1 L (.lst [])) := Same.add hL
    have e2 : (upd H1 L (.lst [])) L = some (.lst []) := upd_same
    generalize upd H1 L (.lst []) = H2 at s2 e2 ⊢
    have k2 := k1.same s2
    refine ⟨_, rfl, _, rfl, by omega, by omega, for_range (n := ((n : Nat) : Int).toNat) (fun i σ G => ∃ (rs : List V) (ls : List (De × Nat)) (v4 v5 v6 : Option V), σ = [some (.ref S.st), some (.int (m : Nat)), some (.int (n : Nat)), some (.ref L), v4, v5, v6] ∧ Kp K S H G ∧ G L = some (.lst rs) ∧ TupsV K G rs (ls.map itemV) ∧ ItemsOk ls n ∧ ls.length = i)
      ⟨[], [], none, none, none, rfl, k2, e2, .nil, (fun _ h => by cases h), rfl⟩ ?_ ?_⟩
    · rintro i σ G hi ⟨rs, ls, v4, v5, v6, rfl, kG, hG, hrs, hls, hll⟩
      have hi : i < n := by simpa using hi
      refine ⟨_, rfl, S, 0, 0, rfl, kG.st, by decide, by decide, fun d qd G2 dok _ _ kd hd => ?_⟩
      obtain ⟨z, rz, e1, e2⟩ := head_goes dok
      have hqd : SqT K G2 qd d.vals := SqT.of hd
      have hG2 : G2 L = some (.lst rs) := kd.but _ _ nL hG
      have hrs2 := hrs.map fun a xs h => kd.tup h
      have k02 := kG.trans kd
      have hlen : ∀ {l : List V}, l.length = ls.length → l.length < sizeLine := fun h => line_ltL (by omega)
      have hrl : rs.length = ls.length := by rw [hrs.len, List.length_map]
      refine ⟨_, rfl, qd, _, _, _, rfl, rfl, hqd, by rw [e1]; exact at0, line5 (by simp), fun q1 hq1 => ?_⟩
      have s3 : Same G2 (upd G2 q1 (.tup [V.str "jump", V.str "call"])) := Same.add hq1
      have h3 : (upd G2 q1 (.tup [V.str "jump", V.str "call"])) q1 = some (.tup [V.str "jump", V.str "call"]) := upd_same
      generalize upd G2 q1 (.tup [V.str "jump", V.str "call"]) = G3 at s3 h3 ⊢
      have k03 := k02.same s3
      refine ⟨q1, _, rfl, .inr (SqT.of h3), rfl, rfl, _, rfl, ?_⟩
      have ev : (if (false : Bool) = true then !inV (V.str z) [.str "jump", .str "call"] else inV (V.str z) [.str "jump", .str "call"]) = d.goal.isSome := by rw [if_neg (by decide)]; exact e2
      have fin : ∀ (x : De × Nat) (G4 : Hp) (p : Addr) (v6 : Option V), x.1.ok → x.2 ≤ n → Same G3 G4 ∨ Kp K S G3 G4 → SqT K G4 p (itemV x) → ∃ (rs' : List V) (ls' : List (De × Nat)) (v4 v5 v6' : Option V), [some (.ref S.st), some (.int (m : Nat)), some (.int (n : Nat)), some (.ref L), some (.int (0 + (i : Nat))), some (.ref p), v6] = [some (.ref S.st), some (.int (m : Nat)), some (.int (n : Nat)), some (.ref L), v4, v5, v6'] ∧ Kp K S H (upd G4 L (.lst (rs ++ [.ref p]))) ∧ (upd G4 L (.lst (rs ++ [.ref p]))) L = some (.lst rs') ∧ TupsV K (upd G4 L (.lst (rs ++ [.ref p]))) rs' (ls'.map itemV) ∧ ItemsOk ls' n ∧ ls'.length = i + 1 := fun x G4 p v6 h1 h2 hk hp => by
        have k4 : Kp K S G3 G4 := hk.elim (fun e => Kp.of k03.st e) id
        have hL4 : G4 L = some (.lst rs) := k4.but _ _ nL (s3 _ _ hG2)
        refine ⟨rs ++ [.ref p], ls ++ [x], _, _, _, rfl, (k03.trans k4).mut hL0, upd_same, ?_, fun y hy => ?_, by rw [List.length_append, hll]; rfl⟩
        · rw [List.map_append]
          exact TupsV.snoc (tup_putLq hL4 hp) (hrs2.map fun a xs h => tup_putLq hL4 (k4.tup (Same.tup s3 h)))
        · rcases List.mem_append.mp hy with z | z
          · exact hls y z
          · rw [List.mem_singleton.mp z]
            exact ⟨h1, h2⟩
      cases hgo : d.goal with
      | none =>
        rw [hgo] at ev
        have ei : itemV (d, 0) = d.vals := by
          unfold itemV
          rw [hgo]
        refine iteF' ev ⟨_, rfl, .inl ⟨rfl, _, SqL.of (s3 _ _ hG2)⟩, _, rfl, L, rs, _, rfl, rfl, s3 _ _ hG2, hlen hrl, ?_⟩
        exact fin (d, 0) G3 qd v6 dok (Nat.zero_le _) (.inl (Same.refl _)) (by rw [ei]; exact Same.tup s3 hqd)
      | some g =>
        rw [hgo] at ev
        refine iteT' ev ?_
        refine ⟨_, rfl, _, rfl, _, _, rfl, rfl, S, _, rfl, k03.st, by omega, by omega, fun ra G4 ra0 ra1 k4 => ?_⟩
        refine ⟨_, rfl, _, rfl, _, rfl, S, 4, rfl, k4.st, by decide, by decide, fun rb G5 rb0 rb1 k5 => ?_⟩
        refine ⟨_, _, rfl, rfl, _, _, rfl, line5 (by simp), fun l1 hl1 => ?_⟩
        dsimp only
        have hmn : 0 ≤ (if (0 : Int) + (i : Nat) + rb < (n : Nat) then (0 : Int) + (i : Nat) + rb else (n : Nat)) ∧ (if (0 : Int) + (i : Nat) + rb < (n : Nat) then (0 : Int) + (i : Nat) + rb else (n : Nat)) ≤ (n : Nat) := by
          split <;> omega
        generalize (if (0 : Int) + (i : Nat) + rb < (n : Nat) then (0 : Int) + (i : Nat) + rb else ((n : Nat) : Int)) = mn at hmn ⊢
        have nl1 : l1 ≠ S.st := by
          obtain ⟨l, hl⟩ := k5.st.lst
          exact Ne.symm (ne_of_none hl hl1)
        have s6 : Same G5 (upd G5 l1 (.lst [V.int ra, V.int mn])) := Same.add hl1
        have e6 : (upd G5 l1 (.lst [V.int ra, V.int mn])) l1 = some (.lst [V.int ra, V.int mn]) := upd_same
        generalize upd G5 l1 (.lst [V.int ra, V.int mn]) = G6 at s6 e6 ⊢
        have k06 := (k4.trans k5).same s6
        refine ⟨_, rfl, S, 2, rfl, k06.st, by decide, by decide, fun rc G7 rc0 rc1 k7 => ?_⟩
        obtain ⟨th, hth, hthn⟩ : ∃ th : Nat, atI [V.int ra, V.int mn] rc = some (.int (th : Nat)) ∧ th ≤ n := by
          have e : rc = 0 ∨ rc = 1 := by omega
          rcases e with rfl | rfl
          · exact ⟨ra.toNat, (atI_nat (j := 0) rfl).trans (by rw [Int.toNat_of_nonneg ra0]), by omega⟩
          · exact ⟨mn.toNat, (atI_nat (j := 1) rfl).trans (by rw [Int.toNat_of_nonneg hmn.1]), by omega⟩
        refine ⟨l1, _, _, _, rfl, rfl, k7.lst nl1 (SqL.of e6), hth, ?_⟩
        have k07 := k06.trans k7
        refine ⟨_, rfl, _, rfl, _, rfl, rsl (k07.tup (Same.tup s3 hqd)) fun p1 G8 s8 h8 => ?_⟩
        rw [cut_m2 (goal_len hgo)] at h8
        refine ⟨_, rfl, line5 (by simp), fun p2 hp2 => ?_⟩
        have s9 : Same G8 (upd G8 p2 (.tup [V.int (th : Nat)])) := Same.add hp2
        have e9 : (upd G8 p2 (.tup [V.int (th : Nat)])) p2 = some (.tup [V.int (th : Nat)]) := upd_same
        generalize upd G8 p2 (.tup [V.int (th : Nat)]) = G9 at s9 e9 ⊢
        refine rcat (Same.tup s9 h8) (SqT.of e9) (by have := vals_short d; rw [List.length_take]; simp; omega) fun p3 G10 s10 h10 => ?_
        have kf := k07.same (Same.trans s8 (Same.trans s9 s10))
        have hL10 := kf.but _ _ nL (s3 _ _ hG2)
        have ei : itemV (d, th) = d.vals.take (d.vals.length - 2) ++ [.int (th : Nat)] := by
          unfold itemV
          rw [hgo]
        refine ⟨_, rfl, .inl ⟨rfl, _, SqL.of hL10⟩, _, rfl, L, rs, _, rfl, rfl, hL10, hlen hrl, ?_⟩
        exact fin (d, th) G10 p3 (some (.int (th : Nat))) dok hthn (.inr kf) (by rw [ei]; exact h10)
    · rintro σ G ⟨rs, ls, v4, v5, v6, rfl, kG, hG, hrs, hls, hll⟩
      rw [Int.toNat_natCast] at hll
      exact ⟨_, rfl, q L rs ls G kG hL0 nL hG hrs (by rw [hll]; exact hls) (by omega)⟩
theorem ItemsOk.lst {H : Hp} {rs : List V} {ls : List Ld} (h : TupsV K H rs (ls.map itemV)) (hi : ItemsOk ls ls.length) (hl : ls.length ≤ 1000) : Lst K H rs ls := ⟨h, fun x hx _ => (hi x hx).2, fun x hx => (hi x hx).1, hl⟩
abbrev KnList (P : Program) (w : World) (K : PySem.W.Frag) (mg : Str → Option Value) (base : Heap) : Prop := Kn P w K mg base CX0 4 "_law_list" ["_law_state_here", "_law_most"] [] (spList K)
end
end Bm
set_option maxHeartbeats 800000
namespace Bm
open PySem PySem.Spec PyProof.Rows L2
theorem nat_flat (l : List Nat) : (vNat l).all flatV = true := by
  rw [List.all_eq_true]
  intro v hv
  obtain ⟨i, _, rfl⟩ := List.mem_map.mp hv
  rfl
theorem inV_nat (k : Nat) : ∀ l : List Nat, inV (.int (k : Nat)) (vNat l) = decide (k ∈ l)
  | [] => rfl
  | x :: l => by
    have ih := inV_nat k l
    have e : inV (.int (k : Nat)) (vNat (x :: l)) = (decide (((x : Nat) : Int) = k) || inV (.int (k : Nat)) (vNat l)) := rfl
    rw [e, ih]
    by_cases c : k = x
    · subst c; simp
    · rw [decide_eq_false (by omega)]
      by_cases d : k ∈ l
      · simp [d]
      · simp [d, c]
theorem rep_nat (k : Nat) (m : Nat) : (List.replicate m [V.int (k : Nat)]).flatten = vNat (List.replicate m k) := by
  induction m with
  | zero => rfl
  | succ m ih =>
    rw [List.replicate_succ, List.replicate_succ, List.flatten_cons, ih]
    rfl
theorem wN_next {gs : List (Option Nat)} {n k : Nat} (hk : k < gs.length) : (wN gs (n + 1))[k]? = some 2 ↔ (wN gs n)[k]? = some 2 ∨ farAt gs (wN gs n) k = true := by
  have hl : k < (wN gs n).length := by rw [wN_len]; exact hk
  show (wstep gs (wN gs n))[k]? = some 2 ↔ _
  rw [wstep_at hl]
  by_cases c : farAt gs (wN gs n) k = true
  · rw [if_pos c]
    exact ⟨fun _ => .inr c, fun _ => rfl⟩
  · rw [if_neg c, List.getD_eq_getElem?_getD, List.getElem?_eq_getElem hl]
    exact ⟨fun h => .inl h, fun h => h.elim id fun z => absurd z c⟩
/-- the numbers that are wide, in a turn, so far -/
def FarsAt (gs : List (Option Nat)) (n j : Nat) (fs : List Nat) : Prop := (∀ k, k ∈ fs ↔ k < gs.length ∧ ((wN gs n)[k]? = some 2 ∨ (k < j ∧ farAt gs (wN gs n) k = true))) ∧ fs.length ≤ n * gs.length + j
theorem FarsAt.turn {gs : List (Option Nat)} {n : Nat} {fs : List Nat} (h : FarsAt gs n gs.length fs) : FarsAt gs (n + 1) 0 fs := by
  refine ⟨fun k => ?_, by have := h.2; rw [Nat.succ_mul]; omega⟩
  rw [h.1 k]
  constructor
  · rintro ⟨h1, h2⟩
    refine ⟨h1, .inl ((wN_next h1).mpr (h2.imp id And.right))⟩
  · rintro ⟨h1, h2 | h2⟩
    · exact ⟨h1, ((wN_next h1).mp h2).imp id fun z => ⟨h1, z⟩⟩
    · exact absurd h2.1 (Nat.not_lt_zero _)
theorem FarsAt.start (gs : List (Option Nat)) : FarsAt gs 0 0 [] := by
  refine ⟨fun k => ⟨(fun h => by cases h), ?_⟩, Nat.zero_le _⟩
  rintro ⟨h1, h2 | h2⟩
  · have h2 : (List.replicate gs.length 1)[k]? = some 2 := h2
    rw [List.getElem?_replicate, if_pos h1] at h2
    cases h2
  · exact absurd h2.1 (Nat.not_lt_zero _)
theorem FarsAt.same {gs : List (Option Nat)} {n j : Nat} {fs : List Nat} (h : FarsAt gs n j fs) (c : farAt gs (wN gs n) j = false) : FarsAt gs n (j + 1) fs := by
  refine ⟨fun k => ?_, by have := h.2; omega⟩
  rw [h.1 k]
  refine and_congr_right fun h1 => or_congr_right ⟨fun ⟨a, b⟩ => ⟨by omega, b⟩, fun ⟨a, b⟩ => ⟨?_, b⟩⟩
  by_cases e : k = j
  · rw [e, c] at b
    cases b
  · omega
theorem FarsAt.more {gs : List (Option Nat)} {n j : Nat} {fs : List Nat} (hj : j < gs.length) (h : FarsAt gs n j fs) (c : farAt gs (wN gs n) j = true) : FarsAt gs n (j + 1) (fs ++ [j]) := by
  refine ⟨fun k => ?_, by have := h.2; rw [List.length_append, List.length_singleton]; omega⟩
  rw [List.mem_append, h.1 k, List.mem_singleton]
  constructor
  · rintro (⟨h1, h2⟩ | rfl)
    · exact ⟨h1, h2.imp id fun z => ⟨by omega, z.2⟩⟩
    · exact ⟨hj, .inr ⟨by omega, c⟩⟩
  · rintro ⟨h1, h2⟩
    by_cases e : k = j
    · exact .inr e
    · exact .inl ⟨h1, h2.imp id fun z => ⟨by omega, z.2⟩⟩
theorem FarsAt.in_ {gs : List (Option Nat)} {n : Nat} {fs : List Nat} (h : FarsAt gs n 0 fs) {k : Nat} (hk : k < gs.length) : (wN gs n)[k]? = some (if k ∈ fs then 2 else 1) := by
  have hs := List.getElem?_eq_getElem (show k < (wN gs n).length by rw [wN_len]; exact hk)
  have h2 := wN_two gs n _ (List.mem_of_getElem? hs)
  generalize (wN gs n)[k]'_ = s at hs h2
  by_cases c : k ∈ fs
  · rw [if_pos c]
    exact ((h.1 k).mp c).2.elim id fun z => absurd z.1 (Nat.not_lt_zero _)
  · rw [if_neg c, hs]
    rcases h2 with e | e
    · rw [e]
    · exact absurd ((h.1 k).mpr ⟨hk, .inl (by rw [hs, e])⟩) c
section
variable {P : Program} {w : World} {K : PySem.W.Frag} {mg : Str → Option Value} {base : Heap} {f : Addr} {fd : FuncData} {dvs : List V}
def spLaidX (K : PySem.W.Frag) : Sp := fun vs H Q _ => ∃ (D Fa : Addr) (rs : List V) (fs sz : List Nat), vs = [.ref D, .ref Fa] ∧ SqL K H D rs ∧ rs.length ≤ 1000 ∧ SqL K H Fa (vNat fs) ∧ sz.length = rs.length ∧ (∀ k, k < sz.length → sz[k]? = some (if k ∈ fs then 2 else 1)) ∧ ∀ L H', Same H H' → H L = none → H' L = some (.lst (vNat (spots sz))) → Q (.ref L) H'
abbrev N__law_laid : List Str := ["_law_deeds", "_law_far", "_law_found", "_law_k"]
theorem sc__law_laid : FnScope ["_law_deeds", "_law_far", "_law_found", "_law_k"] ["_law_deeds", "_law_far"] (defScope s__law_laid) := ⟨rfl, rfl, rfl, by decide +kernel, rfl, by decide +kernel, by decide +kernel⟩
theorem ok_laidX (F : FunD K "_law_laid" "_law_laid" (defArgs s__law_laid) (defBody s__law_laid) (defScope s__law_laid) dvs [] f fd) (g_range : mg "range" = none) (g_len : mg "len" = none) (g_int : mg "int" = none) : FnOk P w K mg base CX0 1 f fd ["_law_deeds", "_law_far"] (spLaidX K) := by
  refine F.ok sc__law_laid (fun vs H Q E h => ?_) (fun cdv A outer s H vs Q E hr h => ?_)
  · obtain ⟨D, Fa, rs, fs, sz, rfl, _⟩ := h
    rfl
  · obtain ⟨D, Fa, rs, fs, sz, rfl, hD, hl, hF, hsl, hsz, q⟩ := h
    refine ⟨_, PSs.nox (pss_cons (ps_set (i := 2) sc__law_laid.nd rfl (Or.inl rfl) (pe_lst (pa_cons pe_int pa_nil)))
      (pss_cons (ps_for PassesOwn.never rfl (pi_range1 rfl g_range (pa_cons (pe_callB call_len rfl g_len boot_len (pa_cons (pv 0) pa_nil)) pa_nil)) (pg_name (i := 3) sc__law_laid.nd rfl (Or.inl rfl))
      (pss_one (ps_expr (pe_bm PySem.F.plainAttrs_list PySem.F.slot_list_append PySem.F.type_list_append mt_append (pv 2) (pa_cons (pe_op op_add (pe_op op_add (pe_ix ix_list (pv 2) (pe_un un_neg pe_int) (fun _ _ => rfl)) pe_int) (pe_callTy call_int1 rfl g_int (by decide +kernel) (pa_cons (pe_cmpR op_in_seq (pv 3) (pv 1) rfl) pa_nil))) pa_nil)))))
      (pss_one (ps_ret (pv 2))))), ?_⟩
    refine ⟨line5 (by simp), fun L hL => ?_⟩
    have hL0 : H L = none := hL
    have s1 : Same H (upd H L (.lst [V.int 0])) := Same.add hL
    have e1 : (upd H L (.lst [V.int 0])) L = some (.lst [V.int 0]) := upd_same
    generalize upd H L (.lst [V.int 0]) = H1 at s1 e1 ⊢
    refine ⟨_, rfl, _, _, rfl, .inl ⟨_, s1.seq hD, rfl⟩, _, rfl, by omega, by omega, for_range (n := ((rs.length : Nat) : Int).toNat) (fun i σ G => ∃ v3 : Option V, σ = [some (.ref D), some (.ref Fa), some (.ref L), v3] ∧ Same H G ∧ G L = some (.lst (vNat ((List.range (i + 1)).map (lay sz)))))
      ⟨none, rfl, s1, e1⟩ ?_ ?_⟩
    · rintro i σ G hi ⟨v3, rfl, sG, hG⟩
      have hi : i < rs.length := by simpa using hi
      simp only [Int.zero_add]
      have hlast : atI (vNat ((List.range (i + 1)).map (lay sz))) (-1) = some (.int (lay sz i : Nat)) := by
        unfold vNat
        rw [List.range_succ, List.map_append, List.map_append]
        exact L2.atI_last _ _
      refine ⟨_, rfl, .inl ⟨rfl, _, SqL.of hG⟩, _, rfl, _, rfl, L, _, _, _, rfl, rfl, SqL.of hG, hlast, _, _, rfl, rfl, _, rfl, _, rfl, Fa, _, rfl, .inl (sG.seq hF), rfl, nat_flat fs, .inr ⟨_, rfl, _, _, rfl, rfl, L, _, _, rfl, rfl, hG, ?_, ?_⟩⟩
      · unfold vNat
        rw [List.length_map, List.length_map, List.length_range]
        exact line_ltL (by omega)
      have eb : (if (false : Bool) = true then !inV (V.int (i : Nat)) (vNat fs) else inV (V.int (i : Nat)) (vNat fs)) = decide (i ∈ fs) := by rw [if_neg (by decide), inV_nat]
      rw [eb]
      have hn := lay_next (hsz i (by omega))
      refine ⟨_, rfl, Same.mut sG hL0, ?_⟩
      rw [upd_same]
      unfold vNat
      rw [List.range_succ (n := i + 1), List.map_append, List.map_append, List.map_cons, List.map_cons, hn]
      show some (HO.lst (_ ++ [V.int (((lay sz i : Nat) : Int) + 1 + (if decide (i ∈ fs) = true then (1 : Int) else 0))])) = _
      by_cases c : i ∈ fs
      · rw [if_pos (decide_eq_true c), if_pos c]
        rfl
      · rw [if_neg (by simpa using c), if_neg c]
        simp
    · rintro σ G ⟨v3, rfl, sG, hG⟩
      rw [Int.toNat_natCast, ← hsl] at hG
      exact ⟨_, rfl, q L G sG hL0 hG⟩
abbrev KnLaidX (P : Program) (w : World) (K : PySem.W.Frag) (mg : Str → Option Value) (base : Heap) : Prop := Kn P w K mg base CX0 1 "_law_laid" ["_law_deeds", "_law_far"] [] (spLaidX K)
end
end Bm
set_option maxHeartbeats 1600000
namespace Bm
open PySem PySem.Spec PyProof.Rows L2
theorem near_bb (a b : Int) : (!(if decide (0 - 16 ≤ a - b - 1) = true then decide (a - b - 1 < 16) else false)) = !decide (-16 ≤ a - b - 1 ∧ a - b - 1 ≤ 15) := by
  by_cases c : -16 ≤ a - b - 1
  · rw [if_pos (decide_eq_true (by omega))]
    by_cases d : a - b - 1 ≤ 15
    · rw [decide_eq_true (by omega), decide_eq_true ⟨c, d⟩]
    · rw [decide_eq_false (by omega), decide_eq_false (fun z => d z.2)]
  · rw [if_neg (by rw [decide_eq_false (by omega)]; decide), decide_eq_false (fun z => c z.1)]
section
variable {P : Program} {w : World} {K : PySem.W.Frag} {mg : Str → Option Value} {base : Heap} {f : Addr} {fd : FuncData} {dvs : List V}
abbrev KnLw (P : Program) (w : World) (K : PySem.W.Frag) (mg : Str → Option Value) (base : Heap) : Prop := Kn P w K mg base CX0 2 "_law_words" ["_law_deed_here", "_law_place"] [] (spLWords K)
def spImgX (K : PySem.W.Frag) : Sp := fun vs H Q _ => ∃ (D : Addr) (rs : List V) (ls : List Ld), vs = [.ref D] ∧ SqL K H D rs ∧ Lst K H rs ls ∧ ls.length ≤ 210 ∧ (200 < sizeL ls → ∀ H', Same H H' → Q .non H') ∧ (sizeL ls ≤ 200 → ∀ r H', Same H H' → SqT K H' r (vInts (imgL ls)) → Q (.ref r) H')
abbrev N__law_image_of : List Str := ["_law_deeds", "_law_far", "_law_turn", "_law_spots", "_law_k", "_law_there", "_law_found", "_law_deed_here"]
theorem sc__law_image_of : FnScope ["_law_deeds", "_law_far", "_law_turn", "_law_spots", "_law_k", "_law_there", "_law_found", "_law_deed_here"] ["_law_deeds"] (defScope s__law_image_of) := ⟨rfl, rfl, rfl, by decide +kernel, rfl, by decide +kernel, by decide +kernel⟩
theorem ok_imgX (F : FunD K "_law_image_of" "_law_image_of" (defArgs s__law_image_of) (defBody s__law_image_of) (defScope s__law_image_of) dvs [] f fd) (k__law_laid : KnLaidX P w K mg base) (k__law_words : KnLw P w K mg base) (g_range : mg "range" = none) (g_len : mg "len" = none) (g_int : mg "int" = none) : FnOk P w K mg base CX0 4 f fd ["_law_deeds"] (spImgX K) := by
  refine F.ok sc__law_image_of (fun vs H Q E h => ?_) (fun cdv A outer s H vs Q E hr h => ?_)
  · obtain ⟨D, rs, ls, rfl, _⟩ := h
    rfl
  · obtain ⟨D, rs, ls, rfl, hD, hL, hl, qn, q⟩ := h
    refine ⟨_, PSs.nox (pss_cons (ps_set (i := 1) sc__law_image_of.nd rfl (Or.inl rfl) (pe_lst pa_nil))
      (pss_cons (ps_for PassesOwn.never rfl (pi_range1 rfl g_range (pa_cons (pe_op op_add (pe_callB call_len rfl g_len boot_len (pa_cons (pv 0) pa_nil)) pe_int) pa_nil)) (pg_name (i := 2) sc__law_image_of.nd rfl (Or.inl rfl))
      (pss_cons (ps_set (i := 3) sc__law_image_of.nd rfl (Or.inl rfl) (pk k__law_laid hr (by decide) rfl pass0 (pa_cons (pv 0) (pa_cons (pv 1) pa_nil))))
      (pss_one (ps_for PassesOwn.never rfl (pi_range1 rfl g_range (pa_cons (pe_callB call_len rfl g_len boot_len (pa_cons (pv 0) pa_nil)) pa_nil)) (pg_name (i := 4) sc__law_image_of.nd rfl (Or.inl rfl))
      (pss_one (ps_if (PW.pt (pw_and (pt_cmpR op_in_seq (pe_ix ix_tup (pe_ix ix_list (pv 0) (pv 4) (fun _ _ => rfl)) pe_int (fun _ _ => rfl)) (pe_tup (pa_cons pe_str (pa_cons pe_str pa_nil))) rfl) (pw_and1 (pt_cmpR op_notIn_seq (pv 4) (pv 1) rfl)))) (pss_cons (ps_set (i := 5) sc__law_image_of.nd rfl (Or.inl rfl) (pe_op op_sub (pe_op op_sub (pe_ix ix_list (pv 3) (pe_ix ix_tup (pe_ix ix_list (pv 0) (pv 4) (fun _ _ => rfl)) (pe_un un_neg pe_int) (fun _ _ => rfl)) (fun _ _ => rfl)) (pe_ix ix_list (pv 3) (pv 4) (fun _ _ => rfl))) pe_int))
      (pss_one (ps_set (i := 1) sc__law_image_of.nd rfl (Or.inl rfl) (pe_op op_cat (pv 1) (pe_op op_rep (pe_lst (pa_cons (pv 4) pa_nil)) (pe_callTy call_int1 rfl g_int (by decide +kernel) (pa_cons (pe_not (pe_chain op_le op_lt (pe_op op_sub pe_int pe_int) (pv 5) pe_int)) pa_nil))))))) pss_nil))))))
      (pss_cons (ps_set (i := 3) sc__law_image_of.nd rfl (Or.inl rfl) (pk k__law_laid hr (by decide) rfl pass0 (pa_cons (pv 0) (pa_cons (pv 1) pa_nil))))
      (pss_cons (ps_set (i := 6) sc__law_image_of.nd rfl (Or.inl rfl) (pe_tup pa_nil))
      (pss_cons (ps_for PassesOwn.never rfl (pi_range1 rfl g_range (pa_cons (pe_callB call_len rfl g_len boot_len (pa_cons (pv 0) pa_nil)) pa_nil)) (pg_name (i := 4) sc__law_image_of.nd rfl (Or.inl rfl))
      (pss_cons (ps_set (i := 7) sc__law_image_of.nd rfl (Or.inl rfl) (pe_ix ix_list (pv 0) (pv 4) (fun _ _ => rfl)))
      (pss_cons (ps_if (pt_cmpR op_in_seq (pe_ix ix_tup (pv 7) pe_int (fun _ _ => rfl)) (pe_tup (pa_cons pe_str (pa_cons pe_str pa_nil))) rfl) (pss_one (ps_set (i := 7) sc__law_image_of.nd rfl (Or.inl rfl) (pe_op op_catA (pe_slice sl_tupA (pv 7) po_none (po_some (pe_un un_neg pe_int))) (pe_tup (pa_cons (pe_ix ix_list (pv 3) (pe_ix ix_tup (pv 7) (pe_un un_neg pe_int) (fun _ _ => rfl)) (fun _ _ => rfl)) (pa_cons (pe_cmpR op_in_seq (pv 4) (pv 1) rfl) pa_nil)))))) pss_nil)
      (pss_one (ps_set (i := 6) sc__law_image_of.nd rfl (Or.inl rfl) (pe_op op_catA (pv 6) (pk k__law_words hr (by decide) rfl pass0 (pa_cons (pv 7) (pa_cons (pe_ix ix_list (pv 3) (pv 4) (fun _ _ => rfl)) pa_nil)))))))))
      (pss_one (ps_ret (pe_ifExp (pt_cmpR op_le (pe_callB call_len rfl g_len boot_len (pa_cons (pv 6) pa_nil)) pe_int (nomark _)) (pv 6) pe_non)))))))), ?_⟩
    refine ⟨line5 (by simp), fun F0 hF0 => ?_⟩
    have s1 : Same H (upd H F0 (.lst [])) := Same.add hF0
    have e1 : (upd H F0 (.lst [])) F0 = some (.lst []) := upd_same
    generalize upd H F0 (.lst []) = H1 at s1 e1 ⊢
    have hrl := hL.len
    have hgl : (ls.map goL).length = ls.length := List.length_map ..
    have item : ∀ (k : Nat), k < ls.length → ∃ (x : Ld) (p : Addr), ls[k]? = some x ∧ rs[k]? = some (.ref p) ∧ SqT K H p (itemV x) ∧ x.1.ok ∧ (x.1.goes = true → x.2 ≤ ls.length) := fun k hk => by
      have hx := List.getElem?_eq_getElem hk
      obtain ⟨p, h1, h2, h3⟩ := hL.at_ hx
      exact ⟨_, p, hx, h1, h2, h3, hL.ok _ (List.getElem_mem hk)⟩
    refine ⟨_, rfl, _, _, rfl, .inl ⟨_, s1.seq hD, rfl⟩, _, _, rfl, rfl, _, rfl, by omega, by omega, for_range (n := (((rs.length : Nat) : Int) + 1).toNat) (fun i σ G => ∃ (Fa : Addr) (fs : List Nat) (v2 v3 v4 v5 : Option V), σ = [some (.ref D), some (.ref Fa), v2, v3, v4, v5, none, none] ∧ Same H G ∧ G Fa = some (.lst (vNat fs)) ∧ FarsAt (ls.map goL) i 0 fs)
      ⟨F0, [], none, none, none, none, rfl, s1, e1, FarsAt.start _⟩ ?_ ?_⟩
    · rintro i σ G hi ⟨Fa, fs, v2, v3, v4, v5, rfl, sG, hF, hfa⟩
      have hi : i < 211 := by omega
      have wl := wN_len (ls.map goL) i
      refine ⟨_, rfl, _, rfl, D, Fa, rs, fs, wN (ls.map goL) i, rfl, sG.seq hD, by omega, SqL.of hF, by omega, fun k hk => hfa.in_ (by omega), fun L G2 s2 nL hsp => ?_⟩
      have sG2 := Same.trans sG s2
      refine ⟨_, rfl, _, _, rfl, .inl ⟨_, sG2.seq hD, rfl⟩, _, rfl, by omega, by omega, for_range (n := ((rs.length : Nat) : Int).toNat) (fun k σ G3 => ∃ (Fb : Addr) (gs2 : List Nat) (v4 v5 : Option V), σ = [some (.ref D), some (.ref Fb), some (.int (0 + (i : Nat))), some (.ref L), v4, v5, none, none] ∧ Same G2 G3 ∧ G3 Fb = some (.lst (vNat gs2)) ∧ FarsAt (ls.map goL) i k gs2)
        ⟨Fa, fs, v4, v5, rfl, Same.refl _, s2 _ _ hF, hfa⟩ ?_ ?_⟩
      · rintro k σ G3 hk ⟨Fb, gs2, v4, v5, rfl, s3, hFb, hgl2⟩
        have hk : k < ls.length := by simpa [hrl] using hk
        obtain ⟨x, p, hx, hp, hpi, xok, xn⟩ := item k hk
        have s03 := Same.trans sG2 s3
        simp only [Int.zero_add]
        have hpat : atI rs ((k : Nat) : Int) = some (.ref p) := atI_nat hp
        have hpi3 := Same.tup s03 hpi
        obtain ⟨z, rz, ez, e2⟩ := item_goes xok
        have hgx : (ls.map goL)[k]? = some (goL x) := by rw [List.getElem?_map, hx]; rfl
        have same_ : farAt (ls.map goL) (wN (ls.map goL) i) k = false → ∀ (G4 : Hp) (v5 : Option V), Same G2 G4 → G4 Fb = some (.lst (vNat gs2)) → ∃ (Fb' : Addr) (gs3 : List Nat) (v4' v5' : Option V), ([some (V.ref D), some (V.ref Fb), some (V.int (0 + (i : Nat))), some (V.ref L), some (V.int (k : Nat)), v5, none, none] : List (Option V)) = [some (.ref D), some (.ref Fb'), some (.int (0 + (i : Nat))), some (.ref L), v4', v5', none, none] ∧ Same G2 G4 ∧ G4 Fb' = some (.lst (vNat gs3)) ∧ FarsAt (ls.map goL) i (k + 1) gs3 := fun hf G4 v5 s4 h4 => ⟨Fb, gs2, _, _, rfl, s4, h4, hgl2.same hf⟩
        simp only [Int.zero_add] at same_
        refine ⟨_, rfl, _, rfl, D, _, _, _, rfl, rfl, s03.seq hD, hpat, p, _, _, _, rfl, rfl, hpi3, by rw [ez]; exact at0, line5 (by simp), fun q1 hq1 => ?_⟩
        have s4 : Same G3 (upd G3 q1 (.tup [V.str "jump", V.str "call"])) := Same.add hq1
        have e4 : (upd G3 q1 (.tup [V.str "jump", V.str "call"])) q1 = some (.tup [V.str "jump", V.str "call"]) := upd_same
        generalize upd G3 q1 (.tup [V.str "jump", V.str "call"]) = G4 at s4 e4 ⊢
        refine ⟨q1, _, rfl, .inr (SqT.of e4), rfl, rfl, _, rfl, ?_⟩
        have ev : (if (false : Bool) = true then !inV (V.str z) [.str "jump", .str "call"] else inV (V.str z) [.str "jump", .str "call"]) = x.1.goes := by rw [if_neg (by decide)]; exact e2
        by_cases hgo : x.1.goes = true
        · refine iteT' (ev.trans hgo) ?_
          have eg : goL x = some x.2 := by unfold goL; rw [if_pos hgo]
          rw [eg] at hgx
          have xn := xn hgo
          refine ⟨_, rfl, _, rfl, Fb, _, rfl, .inl (SqL.of (s4 _ _ hFb)), rfl, nat_flat gs2, _, rfl, ?_⟩
          have eb : (if (true : Bool) = true then !inV (V.int (k : Nat)) (vNat gs2) else inV (V.int (k : Nat)) (vNat gs2)) = !decide (k ∈ gs2) := by rw [if_pos rfl, inV_nat]
          have hfe : farAt (ls.map goL) (wN (ls.map goL) i) k = (decide ((wN (ls.map goL) i)[k]? = some 1) && !decide (-16 ≤ (lay (wN (ls.map goL) i) x.2 : Int) - lay (wN (ls.map goL) i) k - 1 ∧ (lay (wN (ls.map goL) i) x.2 : Int) - lay (wN (ls.map goL) i) k - 1 ≤ 15)) := by
            unfold farAt
            rw [hgx]
          by_cases c : k ∈ gs2
          · refine iteF' (eb.trans (by rw [decide_eq_true c]; rfl)) (same_ ?_ G4 _ (Same.trans s3 s4) (s4 _ _ hFb))
            rcases ((hgl2.1 k).mp c).2 with h2 | h2
            · rw [hfe, h2]
              rfl
            · exact absurd h2.1 (Nat.lt_irrefl _)
          · refine iteT' (eb.trans (by rw [decide_eq_false c]; rfl)) ?_
            have h1 : (wN (ls.map goL) i)[k]? = some 1 := by
              have hs := List.getElem?_eq_getElem (show k < (wN (ls.map goL) i).length by omega)
              have h2 := wN_two (ls.map goL) i _ (List.mem_of_getElem? hs)
              rw [hs]
              rcases h2 with e | e
              · rw [e]
              · exact absurd ((hgl2.1 k).mpr ⟨by omega, .inl (by rw [hs, e])⟩) c
            rw [h1, decide_eq_true rfl, Bool.true_and, ← near_bb] at hfe
            have ha1 := spots_at (sz := wN (ls.map goL) i) (k := x.2) (by omega)
            have ha2 := spots_at (sz := wN (ls.map goL) i) (k := k) (by omega)
            have hL4 := s4 _ _ (s3 _ _ hsp)
            have s04 := Same.trans s03 s4
            have hFb4 := s4 _ _ hFb
            generalize lay (wN (ls.map goL) i) x.2 = a1 at ha1 hfe
            generalize lay (wN (ls.map goL) i) k = a2 at ha2 hfe
            refine ⟨_, rfl, _, rfl, _, rfl, D, _, _, _, rfl, rfl, s04.seq hD, hpat, _, rfl, p, _, _, _, rfl, rfl, Same.tup s4 hpi3, item_end hgo, L, _, _, _, rfl, rfl, SqL.of hL4, ha1, _, rfl, _, rfl, L, _, _, _, rfl, rfl, SqL.of hL4, ha2, _, _, rfl, rfl, _, _, rfl, rfl, ?_⟩
            refine ⟨_, rfl, _, rfl, line5 (by simp), fun p1 hp1 => ?_⟩
            have s5 : Same G4 (upd G4 p1 (.lst [V.int (k : Nat)])) := Same.add hp1
            have e5 : (upd G4 p1 (.lst [V.int (k : Nat)])) p1 = some (.lst [V.int (k : Nat)]) := upd_same
            generalize upd G4 p1 (.lst [V.int (k : Nat)]) = G5 at s5 e5 ⊢
            refine ⟨_, _, rfl, rfl, _, rfl, _, _, rfl, rfl, _, rfl, ?_⟩
            have key : ∀ b : Bool, farAt (ls.map goL) (wN (ls.map goL) i) k = b → 0 ≤ (if b = true then (1 : Int) else 0) ∧ (if b = true then (1 : Int) else 0) ≤ 1 ∧ FarsAt (ls.map goL) i (k + 1) (gs2 ++ List.replicate (if b = true then (1 : Int) else 0).toNat k) := fun b hb => by
              cases b with
              | true => exact ⟨by decide, by decide, hgl2.more (by omega) hb⟩
              | false => exact ⟨by decide, by decide, by
                  have := hgl2.same hb
                  rw [show (List.replicate (if (false : Bool) = true then (1 : Int) else 0).toNat k) = [] from rfl, List.append_nil]
                  exact this⟩
            have hfl := hgl2.2
            rw [hgl] at hfl
            have hfl2 : i * ls.length ≤ 211 * 210 := Nat.mul_le_mul (by omega) (by omega)
            split at hfe
            · rename_i hc
              refine iteT' hc ⟨_, _, rfl, rfl, _, rfl, .inr ⟨_, rfl, ?_⟩⟩
              have ky := key _ hfe
              generalize (if (!decide ((a1 : Int) - a2 - 1 < 16)) = true then (1 : Int) else 0) = mm at ky ⊢
              obtain ⟨k0, k1, k2⟩ := ky
              refine ⟨p1, mm, _, rfl, rfl, e5, by omega, by omega, line5 (by simp; omega), fun p2 hp2 => ?_⟩
              rw [rep_nat]
              have s6 : Same G5 (upd G5 p2 (.lst (vNat (List.replicate mm.toNat k)))) := Same.add hp2
              have e6 : (upd G5 p2 (.lst (vNat (List.replicate mm.toNat k)))) p2 = some (.lst (vNat (List.replicate mm.toNat k))) := upd_same
              generalize upd G5 p2 (.lst (vNat (List.replicate mm.toNat k))) = G6 at s6 e6 ⊢
              have s46 := Same.trans s4 (Same.trans s5 s6)
              refine ⟨Fb, p2, _, _, rfl, rfl, s46 _ _ hFb, e6, line5 (by unfold vNat; rw [List.length_map, List.length_map, List.length_replicate]; omega), fun p3 hp3 => ?_⟩
              refine ⟨p3, _, _, _, rfl, Same.trans s3 (Same.trans s46 (Same.add hp3)), ?_, k2⟩
              rw [upd_same]
              unfold vNat
              rw [List.map_append]
            · rename_i hc
              refine iteF' (eq_false_of_ne_true hc) ⟨_, rfl, .inr ⟨_, rfl, ?_⟩⟩
              have ky := key _ hfe
              generalize (if (!false) = true then (1 : Int) else 0) = mm at ky ⊢
              obtain ⟨k0, k1, k2⟩ := ky
              refine ⟨p1, mm, _, rfl, rfl, e5, by omega, by omega, line5 (by simp; omega), fun p2 hp2 => ?_⟩
              rw [rep_nat]
              have s6 : Same G5 (upd G5 p2 (.lst (vNat (List.replicate mm.toNat k)))) := Same.add hp2
              have e6 : (upd G5 p2 (.lst (vNat (List.replicate mm.toNat k)))) p2 = some (.lst (vNat (List.replicate mm.toNat k))) := upd_same
              generalize upd G5 p2 (.lst (vNat (List.replicate mm.toNat k))) = G6 at s6 e6 ⊢
              have s46 := Same.trans s4 (Same.trans s5 s6)
              refine ⟨Fb, p2, _, _, rfl, rfl, s46 _ _ hFb, e6, line5 (by unfold vNat; rw [List.length_map, List.length_map, List.length_replicate]; omega), fun p3 hp3 => ?_⟩
              refine ⟨p3, _, _, _, rfl, Same.trans s3 (Same.trans s46 (Same.add hp3)), ?_, k2⟩
              rw [upd_same]
              unfold vNat
              rw [List.map_append]
        · refine iteF' (ev.trans (eq_false_of_ne_true hgo)) (iteF ?_)
          have eg : goL x = none := by unfold goL; rw [if_neg hgo]
          rw [eg] at hgx
          refine same_ ?_ G4 _ (Same.trans s3 s4) (s4 _ _ hFb)
          unfold farAt
          rw [hgx]
      · rintro σ G3 ⟨Fb, gs2, v4, v5, rfl, s3, hFb, hgl2⟩
        refine ⟨Fb, gs2, _, _, _, _, rfl, Same.trans sG2 s3, hFb, ?_⟩
        have : (((rs.length : Nat) : Int).toNat) = (ls.map goL).length := by omega
        rw [this] at hgl2
        exact hgl2.turn
    · rintro σ G ⟨Fa, fs, v2, v3, v4, v5, rfl, sG, hF, hfa⟩
      have en : ((((rs.length : Nat) : Int) + 1).toNat) = ls.length + 1 := by omega
      rw [en] at hfa
      have ew : wN (ls.map goL) (ls.length + 1) = szL ls := by
        unfold szL wEnd
        rw [hgl]
      have hin : ∀ k, k < ls.length → (szL ls)[k]? = some (if k ∈ fs then 2 else 1) := fun k hk => by
        rw [← ew]
        exact hfa.in_ (by omega)
      have szl := szL_len ls
      refine ⟨_, rfl, _, rfl, D, Fa, rs, fs, szL ls, rfl, sG.seq hD, by omega, SqL.of hF, by omega, fun k hk => hin k (by omega), fun L G2 s2 nL hsp => ?_⟩
      have sG2 := Same.trans sG s2
      have hF2 := s2 _ _ hF
      refine ⟨line5 (by simp), fun T0 hT0 => ?_⟩
      have s3 : Same G2 (upd G2 T0 (.tup [])) := Same.add hT0
      have e3 : (upd G2 T0 (.tup [])) T0 = some (.tup []) := upd_same
      generalize upd G2 T0 (.tup []) = G3 at s3 e3 ⊢
      have sG3 := Same.trans sG2 s3
      have hL3 := s3 _ _ hsp
      have hF3 := s3 _ _ hF2
      refine ⟨_, rfl, _, _, rfl, .inl ⟨_, sG3.seq hD, rfl⟩, _, rfl, by omega, by omega, for_range (n := ((rs.length : Nat) : Int).toNat) (fun k σ Gk => ∃ (T : Addr) (v4 v7 : Option V), σ = [some (.ref D), some (.ref Fa), v2, some (.ref L), v4, v5, some (.ref T), v7] ∧ Same G3 Gk ∧ SqT K Gk T (vInts (imgI ls k)))
        ⟨T0, v4, none, rfl, Same.refl _, SqT.of e3⟩ ?_ ?_⟩
      · rintro k σ Gk hk ⟨T, v4, v7, rfl, sk, hT⟩
        have hk : k < ls.length := by simpa [hrl] using hk
        obtain ⟨x, p, hx, hp, hpi, xok, xn⟩ := item k hk
        have s0k := Same.trans sG3 sk
        simp only [Int.zero_add]
        have hpat : atI rs ((k : Nat) : Int) = some (.ref p) := atI_nat hp
        have hpik := Same.tup s0k hpi
        obtain ⟨z, rz, ez, e2⟩ := item_goes xok
        have ha2 := spots_at (sz := szL ls) (k := k) (by omega)
        refine ⟨_, rfl, _, rfl, D, _, _, _, rfl, rfl, s0k.seq hD, hpat, ?_⟩
        refine ⟨_, rfl, p, _, _, _, rfl, rfl, hpik, by rw [ez]; exact at0, line5 (by simp), fun q1 hq1 => ?_⟩
        have s4 : Same Gk (upd Gk q1 (.tup [V.str "jump", V.str "call"])) := Same.add hq1
        have e4 : (upd Gk q1 (.tup [V.str "jump", V.str "call"])) q1 = some (.tup [V.str "jump", V.str "call"]) := upd_same
        generalize upd Gk q1 (.tup [V.str "jump", V.str "call"]) = G4 at s4 e4 ⊢
        refine ⟨q1, _, rfl, .inr (SqT.of e4), rfl, rfl, _, rfl, ?_⟩
        have ev : (if (false : Bool) = true then !inV (V.str z) [.str "jump", .str "call"] else inV (V.str z) [.str "jump", .str "call"]) = x.1.goes := by rw [if_neg (by decide)]; exact e2
        have hok := whole_ok (ls := ls) (k := k) xok hL.few
        have hil := imgI_len (ls := ls) k (by omega)
        have hl3 := lay_le (szL_le ls) k
        have hsz := hin k hk
        have fin : ∀ (pd : Addr) (G6 : Hp), Same G4 G6 → ∀ (q : Addr) (G7 : Hp), Same G6 G7 → G7 q = some (.tup (vInts ((wholeD (szL ls) k x).words (lay (szL ls) k : Nat)))) → ∀ (T2 : Addr) (G8 : Hp), Same G7 G8 → SqT K G8 T2 (vInts (imgI ls k) ++ vInts ((wholeD (szL ls) k x).words (lay (szL ls) k : Nat))) → ∃ (T : Addr) (v4 v7 : Option V), [some (.ref D), some (.ref Fa), v2, some (.ref L), some (.int (k : Nat)), v5, some (.ref T2), some (.ref pd)] = [some (.ref D), some (.ref Fa), v2, some (.ref L), v4, v5, some (.ref T), v7] ∧ Same G3 G8 ∧ SqT K G8 T (vInts (imgI ls (k + 1))) := fun pd G6 s46 q G7 s67 _ T2 G8 s78 h8 => by
          refine ⟨T2, _, _, rfl, Same.trans sk (Same.trans s4 (Same.trans s46 (Same.trans s67 s78))), ?_⟩
          rw [imgI_next hx]
          unfold vInts at h8 ⊢
          rw [List.map_append]
          exact h8
        have hwl : ((wholeD (szL ls) k x).words (lay (szL ls) k : Nat)).length ≤ 2 := by
          obtain ⟨s', e1, e2'⟩ := whole_words hx (lay (szL ls) k : Nat)
          rw [e2']
          exact szL_le ls s' (List.mem_of_getElem? e1)
        by_cases hgo : x.1.goes = true
        · refine iteT' (ev.trans hgo) ?_
          have ha1 := spots_at (sz := szL ls) (k := x.2) (by have := xn hgo; omega)
          refine ⟨_, rfl, _, rfl, _, rfl, rsl (Same.tup s4 hpik) fun p1 G5 s5 h5 => ?_⟩
          have s45 := Same.trans s4 s5
          refine ⟨_, rfl, _, rfl, _, rfl, p, _, _, _, rfl, rfl, Same.tup s45 hpik, item_end hgo, L, _, _, _, rfl, rfl, SqL.of (s45 _ _ (sk _ _ hL3)), ha1, _, rfl, _, rfl, Fa, _, rfl, .inl (SqL.of (s45 _ _ (sk _ _ hF3))), rfl, nat_flat fs, line5 (by simp), fun p2 hp2 => ?_⟩
          have eb : (if (false : Bool) = true then !inV (V.int (k : Nat)) (vNat fs) else inV (V.int (k : Nat)) (vNat fs)) = decide ((szL ls)[k]? = some 2) := by
            rw [if_neg (by decide), inV_nat, hsz]
            by_cases c : k ∈ fs
            · simp [c]
            · simp [c]
          rw [eb]
          have s6 : Same G5 (upd G5 p2 (.tup [V.int (lay (szL ls) x.2 : Nat), V.bl (decide ((szL ls)[k]? = some 2))])) := Same.add hp2
          have e6 : (upd G5 p2 (.tup [V.int (lay (szL ls) x.2 : Nat), V.bl (decide ((szL ls)[k]? = some 2))])) p2 = some (.tup [V.int (lay (szL ls) x.2 : Nat), V.bl (decide ((szL ls)[k]? = some 2))]) := upd_same
          generalize upd G5 p2 (.tup [V.int (lay (szL ls) x.2 : Nat), V.bl (decide ((szL ls)[k]? = some 2))]) = G6 at s6 e6 ⊢
          refine rcat (Same.tup s6 h5) (SqT.of e6) (by have := cut_set_len hgo; simp only [List.length_cons, List.length_nil]; omega) fun p3 G6b s6b h6 => ?_
          rw [whole_vals hgo] at h6
          have s46 := Same.trans s5 (Same.trans s6 s6b)
          refine ⟨_, rfl, _, rfl, _, rfl, _, rfl, L, _, _, _, rfl, rfl, SqL.of (s46 _ _ (s4 _ _ (sk _ _ hL3))), ha2, p3, wholeD (szL ls) k x, _, rfl, h6, hok, fun q G7 s7 hq => ?_⟩
          refine rcat (Same.tup (Same.trans s4 (Same.trans s46 s7)) hT) (SqT.of hq) (by unfold vInts; rw [List.length_map, List.length_map]; omega) fun T2 G8 s8 h8 => ?_
          exact fin p3 G6b s46 q G7 s7 hq T2 G8 s8 h8
        · refine iteF' (ev.trans (eq_false_of_ne_true hgo)) ?_
          have hpd := Same.tup s4 hpik
          rw [still_vals (a := (lay (szL ls) x.2 : Nat)) (b := decide ((szL ls)[k]? = some 2)) (eq_false_of_ne_true hgo)] at hpd
          refine ⟨_, rfl, _, rfl, _, rfl, _, rfl, L, _, _, _, rfl, rfl, SqL.of (s4 _ _ (sk _ _ hL3)), ha2, p, wholeD (szL ls) k x, _, rfl, hpd, hok, fun q G7 s7 hq => ?_⟩
          refine rcat (Same.tup (Same.trans s4 s7) hT) (SqT.of hq) (by unfold vInts; rw [List.length_map, List.length_map]; omega) fun T2 G8 s8 h8 => ?_
          exact fin p G4 (Same.refl _) q G7 s7 hq T2 G8 s8 h8
      · rintro σ Gk ⟨T, v4, v7, rfl, sk, hT⟩
        rw [show ((rs.length : Nat) : Int).toNat = ls.length by omega] at hT
        have elw : (vInts (imgI ls ls.length)).length = sizeL ls := by
          unfold vInts
          rw [List.length_map]
          exact imgL_len ls
        have s0k := Same.trans sG3 sk
        refine ⟨_, rfl, _, _, rfl, .inr ⟨_, hT, rfl⟩, _, _, rfl, rfl, _, rfl, ?_⟩
        rw [elw]
        by_cases c : ((sizeL ls : Nat) : Int) ≤ 200
        · rw [decide_eq_true c]
          exact iteT ⟨_, rfl, q (by omega) T Gk s0k hT⟩
        · rw [decide_eq_false c]
          exact iteF (qn (by omega) Gk s0k)
abbrev KnImgX (P : Program) (w : World) (K : PySem.W.Frag) (mg : Str → Option Value) (base : Heap) : Prop := Kn P w K mg base CX0 4 "_law_image_of" ["_law_deeds"] [] (spImgX K)
end
end Bm
set_option maxHeartbeats 1600000
namespace Bm
open PySem PySem.Spec PyProof.Rows L2
theorem TupsV.set {K : PySem.W.Frag} {H : Hp} {p : Addr} {l : List V} (h : SqT K H p l) : ∀ {vs : List V} {ls : List (List V)} (k : Nat), TupsV K H vs ls → TupsV K H (vs.set k (.ref p)) (ls.set k l)
  | _, _, _, .nil => .nil
  | _, _, 0, .cons _ t => .cons h t
  | _, _, k + 1, .cons a t => .cons a (TupsV.set h k t)
/-- the list that is being made -/
structure Wd (K : PySem.W.Frag) (S : Sk) (H G : Hp) (L : Addr) (rs : List V) (ls : List Ld) (n : Nat) : Prop where
  new : H L = none
  nst : L ≠ S.st
  kp : Kp K S H G
  at_ : G L = some (.lst rs)
  tups : TupsV K G rs (ls.map itemV)
  ok : ItemsOk ls n
  len : ls.length = n
theorem Wd.on {K : PySem.W.Frag} {S : Sk} {H G G' : Hp} {L : Addr} {rs : List V} {ls : List Ld} {n : Nat} (h : Wd K S H G L rs ls n) (k : Kp K S G G') : Wd K S H G' L rs ls n :=
  ⟨h.new, h.nst, h.kp.trans k, k.but _ _ h.nst h.at_, h.tups.map (fun a xs q => k.tup q), h.ok, h.len⟩
theorem Wd.same {K : PySem.W.Frag} {S : Sk} {H G G' : Hp} {L : Addr} {rs : List V} {ls : List Ld} {n : Nat} (h : Wd K S H G L rs ls n) (e : Same G G') : Wd K S H G' L rs ls n := h.on (Kp.of h.kp.st e)
theorem Wd.rlen {K : PySem.W.Frag} {S : Sk} {H G : Hp} {L : Addr} {rs : List V} {ls : List Ld} {n : Nat} (h : Wd K S H G L rs ls n) : rs.length = n := by
  rw [h.tups.len, List.length_map, h.len]
theorem Wd.put {K : PySem.W.Frag} {S : Sk} {H G : Hp} {L p : Addr} {rs : List V} {ls : List Ld} {n k : Nat} {x : Ld} (h : Wd K S H G L rs ls n) (hp : SqT K G p (itemV x)) (h1 : x.1.ok) (h2 : x.2 ≤ n) : Wd K S H (upd G L (.lst (rs.set k (.ref p)))) L (rs.set k (.ref p)) (ls.set k x) n := by
  refine ⟨h.new, h.nst, h.kp.mut h.new, upd_same, ?_, fun y hy => ?_, by rw [List.length_set, h.len]⟩
  · rw [List.map_set]
    exact TupsV.set (tup_putLq h.at_ hp) k (h.tups.map fun a xs q => tup_putLq h.at_ q)
  · rcases List.mem_or_eq_of_mem_set hy with z | z
    · exact h.ok y z
    · rw [z]
      exact ⟨h1, h2⟩
theorem jump_item {k n : Nat} (hk : k < 7) : itemV (.jump k 0 false, n) = [.str "jump", .str (nm TM k), .int (n : Nat)] ∧ De.ok (.jump k 0 false) := ⟨rfl, hk, by decide, by decide⟩
theorem aj_item (n : Nat) : itemV (.jump 0 0 false, n) = [.str "jump", .str "always", .int (n : Nat)] ∧ De.ok (.jump 0 0 false) := ⟨rfl, by decide, by decide, by decide⟩
theorem call_item (n : Nat) : itemV (.call 0 false, n) = [.str "call", .int (n : Nat)] ∧ De.ok (.call 0 false) := ⟨rfl, by decide, by decide⟩
theorem rest_item : itemV (.sgl 1, 0) = [.str "rest"] ∧ De.ok (.sgl 1) := ⟨rfl, show 1 < 3 by decide⟩
section
variable {P : Program} {w : World} {K : PySem.W.Frag} {mg : Str → Option Value} {base : Heap} {f : Addr} {fd : FuncData} {dvs : List V}
abbrev N__law_winding : List Str := ["_law_state_here", "_law_most", "_law_found", "_law_many", "_law_there", "_law_step", "_law_ahead", "_law_k", "_law_way", "_law_turn", "_law_at"]
theorem sc__law_winding : FnScope ["_law_state_here", "_law_most", "_law_found", "_law_many", "_law_there", "_law_step", "_law_ahead", "_law_k", "_law_way", "_law_turn", "_law_at"] ["_law_state_here", "_law_most"] (defScope s__law_winding) := ⟨rfl, rfl, rfl, by decide +kernel, rfl, by decide +kernel, by decide +kernel⟩
theorem ok_winding (F : FunD K "_law_winding" "_law_winding" (defArgs s__law_winding) (defBody s__law_winding) (defScope s__law_winding) dvs [] f fd) (k__law_drawn : KnDr P w K mg base) (k__law_list : KnList P w K mg base) (k__law_times : KnNm P w K mg base "_law_times" TM) (g_range : mg "range" = none) (g_len : mg "len" = none) (g_int : mg "int" = none) (g_min : mg "min" = none) : FnOk P w K mg base CX0 5 f fd ["_law_state_here", "_law_most"] (spList K) := by
  refine F.ok sc__law_winding (fun vs H Q E h => ?_) (fun cdv A outer s H vs Q E hr h => ?_)
  · obtain ⟨S, m, rfl, _⟩ := h
    rfl
  · obtain ⟨S, m, rfl, hst, hm, q⟩ := h
    refine ⟨_, PSs.nox (pss_cons (ps_set (i := 2) sc__law_winding.nd rfl (Or.inl rfl) (pk k__law_list hr (by decide) rfl pass0 (pa_cons (pv 0) (pa_cons (pv 1) pa_nil))))
      (pss_cons (ps_set (i := 3) sc__law_winding.nd rfl (Or.inl rfl) (pe_callB call_len rfl g_len boot_len (pa_cons (pv 2) pa_nil)))
      (pss_cons (ps_set (i := 4) sc__law_winding.nd rfl (Or.inl rfl) pe_int)
      (pss_cons (ps_for PassesOwn.never rfl (pi_range1 rfl g_range (pa_cons (pe_op op_mul (pk k__law_drawn hr (by decide) rfl pass0 (pa_cons (pv 0) (pa_cons pe_int pa_nil))) (pe_callTy call_int1 rfl g_int (by decide +kernel) (pa_cons (pe_cmpR op_gt (pv 3) pe_int (nomark _)) pa_nil))) pa_nil)) (pg_name (i := 5) sc__law_winding.nd rfl (Or.inl rfl))
      (pss_cons (ps_set (i := 6) sc__law_winding.nd rfl (Or.inl rfl) (pv 4))
      (pss_cons (ps_set (i := 4) sc__law_winding.nd rfl (Or.inl rfl) (pk k__law_drawn hr (by decide) rfl pass0 (pa_cons (pv 0) (pa_cons (pv 3) pa_nil))))
      (pss_one (ps_asg (pe_tup (pa_cons pe_str (pa_cons (pe_ix ix_list (pe_lst (pa_cons pe_str (pa_cons (pe_ix ix_list (pk0 k__law_times hr (by decide) rfl pass0) (pk k__law_drawn hr (by decide) rfl pass0 (pa_cons (pv 0) (pa_cons pe_int pa_nil))) (fun _ _ => rfl)) pa_nil))) (pe_op op_fdivN (pk k__law_drawn hr (by decide) rfl pass0 (pa_cons (pv 0) (pa_cons pe_int pa_nil))) pe_int) (fun _ _ => rfl)) (pa_cons (pv 4) pa_nil)))) (pg_sub (pv 2) (pv 6) set_list))))))
      (pss_cons (ps_for PassesOwn.never rfl (pi_range1 rfl g_range (pa_cons (pe_op op_mul (pv 3) (pe_callTy call_int1 rfl g_int (by decide +kernel) (pa_cons (pe_cmpR op_gt (pk k__law_drawn hr (by decide) rfl pass0 (pa_cons (pv 0) (pa_cons pe_int pa_nil))) pe_int (nomark _)) pa_nil))) pa_nil)) (pg_name (i := 7) sc__law_winding.nd rfl (Or.inl rfl))
      (pss_cons (ps_set (i := 8) sc__law_winding.nd rfl (Or.inl rfl) (pk k__law_drawn hr (by decide) rfl pass0 (pa_cons (pv 0) (pa_cons pe_int pa_nil))))
      (pss_one (ps_if (pt_cmpR op_eq (pv 8) pe_int (nomark _)) (pss_one (ps_asg (pe_tup (pa_cons pe_str pa_nil)) (pg_sub (pv 2) (pv 7) set_list))) (pss_one (ps_if (pt_cmpR op_eq (pv 8) pe_int (nomark _)) (pss_cons (ps_set (i := 4) sc__law_winding.nd rfl (Or.inl rfl) (pe_lst (pa_cons (pe_callB (call_min2 rfl) rfl g_min (by decide +kernel) (pa_cons (pv 3) (pa_cons (pe_op op_add (pe_op op_add (pv 7) pe_int) (pk k__law_drawn hr (by decide) rfl pass0 (pa_cons (pv 0) (pa_cons pe_int pa_nil)))) pa_nil))) (pa_cons (pk k__law_drawn hr (by decide) rfl pass0 (pa_cons (pv 0) (pa_cons (pe_op op_add (pv 3) pe_int) pa_nil))) pa_nil))))
      (pss_one (ps_asg (pe_tup (pa_cons pe_str (pa_cons pe_str (pa_cons (pe_ix ix_list (pv 4) (pk k__law_drawn hr (by decide) rfl pass0 (pa_cons (pv 0) (pa_cons pe_int pa_nil))) (fun _ _ => rfl)) pa_nil)))) (pg_sub (pv 2) (pv 7) set_list)))) (pss_one (ps_if (pt_cmpR op_eq (pv 8) pe_int (nomark _)) (pss_one (ps_asg (pe_tup (pa_cons pe_str (pa_cons (pe_ix ix_list (pk0 k__law_times hr (by decide) rfl pass0) (pk k__law_drawn hr (by decide) rfl pass0 (pa_cons (pv 0) (pa_cons pe_int pa_nil))) (fun _ _ => rfl)) (pa_cons (pe_callB (call_min2 rfl) rfl g_min (by decide +kernel) (pa_cons (pv 3) (pa_cons (pe_op op_add (pe_op op_add (pv 7) pe_int) (pk k__law_drawn hr (by decide) rfl pass0 (pa_cons (pv 0) (pa_cons pe_int pa_nil)))) pa_nil))) pa_nil)))) (pg_sub (pv 2) (pv 7) set_list))) pss_nil))))))))
      (pss_cons (ps_for PassesOwn.never rfl (pi_range1 rfl g_range (pa_cons (pe_op op_mul (pk k__law_drawn hr (by decide) rfl pass0 (pa_cons (pv 0) (pa_cons pe_int pa_nil))) (pe_callTy call_int1 rfl g_int (by decide +kernel) (pa_cons (pe_cmpR op_gt (pv 3) pe_int (nomark _)) pa_nil))) pa_nil)) (pg_name (i := 9) sc__law_winding.nd rfl (Or.inl rfl))
      (pss_cons (ps_set (i := 10) sc__law_winding.nd rfl (Or.inl rfl) (pk k__law_drawn hr (by decide) rfl pass0 (pa_cons (pv 0) (pa_cons (pe_op op_sub (pv 3) pe_int) pa_nil))))
      (pss_cons (ps_asg (pe_tup (pa_cons pe_str (pa_cons (pe_ix ix_list (pk0 k__law_times hr (by decide) rfl pass0) (pk k__law_drawn hr (by decide) rfl pass0 (pa_cons (pv 0) (pa_cons pe_int pa_nil))) (fun _ _ => rfl)) (pa_cons (pe_op op_add (pv 10) pe_int) pa_nil)))) (pg_sub (pv 2) (pv 10) set_list))
      (pss_cons (ps_asg (pe_tup (pa_cons pe_str (pa_cons pe_str (pa_cons (pk k__law_drawn hr (by decide) rfl pass0 (pa_cons (pv 0) (pa_cons (pe_op op_add (pv 3) pe_int) pa_nil))) pa_nil)))) (pg_sub (pv 2) (pe_op op_add (pv 10) pe_int) set_list))
      (pss_one (ps_asg (pe_tup (pa_cons pe_str (pa_cons (pv 10) pa_nil))) (pg_sub (pv 2) (pk k__law_drawn hr (by decide) rfl pass0 (pa_cons (pv 0) (pa_cons (pv 3) pa_nil))) set_list)))))))
      (pss_one (ps_ret (pv 2))))))))), ?_⟩
    refine ⟨_, rfl, _, rfl, S, m, rfl, hst, hm, fun L rs ls H1 k1 hLn nL hL hT hI hlm => ?_⟩
    obtain ⟨n, hn⟩ : ∃ n, n = ls.length := ⟨_, rfl⟩
    rw [← hn] at hI hlm
    have wd : Wd K S H H1 L rs ls n := ⟨hLn, nL, k1, hL, hT, hI, hn.symm⟩
    have hrl := wd.rlen
    refine ⟨_, rfl, _, _, rfl, .inl ⟨_, SqL.of hL, rfl⟩, ?_⟩
    refine ⟨_, rfl, S, 9, rfl, wd.kp.st, by decide, by decide, fun r1 H2 r10 r11 k2 => ?_⟩
    have wd2 := wd.on k2
    rw [hrl]
    have hz : 0 ≤ (if decide (0 < ((n : Nat) : Int)) = true then (1 : Int) else 0) ∧ (if decide (0 < ((n : Nat) : Int)) = true then (1 : Int) else 0) ≤ 1 ∧ (n = 0 → (if decide (0 < ((n : Nat) : Int)) = true then (1 : Int) else 0) = 0) := by
      by_cases c : n = 0
      · rw [c]; decide
      · rw [if_pos (decide_eq_true (by omega))]; exact ⟨by decide, by decide, fun h => absurd h c⟩
    refine ⟨_, rfl, _, _, rfl, rfl, .inr ⟨_, rfl, ?_⟩⟩
    generalize (if decide (0 < ((n : Nat) : Int)) = true then (1 : Int) else 0) = z at hz ⊢
    have hrz : 0 ≤ r1 * z ∧ r1 * z ≤ r1 ∧ (n = 0 → r1 * z = 0) := by
      have e : z = 0 ∨ z = 1 := by omega
      rcases e with rfl | rfl
      · rw [Int.mul_zero]; exact ⟨by omega, by omega, fun _ => rfl⟩
      · rw [Int.mul_one]; exact ⟨by omega, by omega, fun h => absurd (hz.2.2 h) (by decide)⟩
    refine ⟨_, _, rfl, rfl, .inl ⟨by omega, by omega⟩, ?_⟩
    obtain ⟨rz, hrzd⟩ : ∃ rz, rz = r1 * z := ⟨_, rfl⟩
    rw [← hrzd] at hrz
    have times_ : ∀ {G : Hp} {rs : List V} {ls : List Ld} {Q : VK} (wdG : Wd K S H G L rs ls n), (∀ (k : Nat) G', k < 7 → Kp K S G G' → Q (.str (nm TM k)) G') → ∀ q G1, G q = none → Same G G1 → G1 q = some (.lst (TM.map V.str)) → ∀ (r : Int) (G2 : Hp), 0 ≤ r → r < 7 → Kp K S G1 G2 → rIxL K (.ref q) (.int r) G2 Q := fun {G rs ls Q} wdG hQ q G1 hq s1 hq1 r G2 r0 r1 k2 => by
      obtain ⟨k, rfl, hk⟩ := nat_of r0 r1
      obtain ⟨l, hl⟩ := wdG.kp.st.lst
      have nq : q ≠ S.st := Ne.symm (ne_of_none hl hq)
      exact ⟨_, _, _, _, rfl, rfl, SqL.of (k2.but _ _ nq hq1), at_nm hk, hQ k G2 hk ((Kp.of wdG.kp.st s1).trans k2)⟩
    refine ⟨rz, by rw [hrzd], by omega, by omega, for_range (n := rz.toNat) (fun i σ G => ∃ (rs : List V) (ls : List Ld) (t : Nat) (v5 v6 : Option V), σ = [some (.ref S.st), some (.int (m : Nat)), some (.ref L), some (.int (n : Nat)), some (.int (t : Nat)), v5, v6, none, none, none, none] ∧ Wd K S H G L rs ls n ∧ (0 < n → t < n))
      ⟨rs, ls, 0, none, none, rfl, wd2, id⟩ ?_ ?_⟩
    · rintro i σ G hi ⟨rs, ls, t, v5, v6, rfl, wd, ht⟩
      have n0 : 0 < n := by
        refine Nat.pos_of_ne_zero fun c => ?_
        rw [hrz.2.2 c] at hi
        exact absurd hi (Nat.not_lt_zero _)
      refine ⟨_, rfl, ?_⟩
      refine ⟨_, rfl, _, rfl, S, _, rfl, wd.kp.st, by omega, by omega, fun r G1 r0 r1 k1 => ?_⟩
      obtain ⟨g, rfl⟩ := Int.eq_ofNat_of_zero_le r0
      have wd1 := wd.on k1
      refine ⟨rfl, fun q G2 hq s2 hq2 => ⟨_, rfl, S, 7, rfl, (wd1.same s2).kp.st, by decide, by decide, fun rr G3 rr0 rr1 k3 => times_ wd1 (fun k G4 hk k4 => ?_) q G2 hq s2 hq2 rr G3 rr0 rr1 k3⟩⟩
      have wd4 := wd1.on k4
      have np_ : ∀ {G : Hp} {rs : List V} {ls : List Ld} {p : Addr}, Wd K S H G L rs ls n → G p = none → p ≠ S.st := fun wd hp => by
        obtain ⟨l, hl⟩ := wd.kp.st.lst
        exact Ne.symm (ne_of_none hl hp)
      refine ⟨line5 (by simp), fun p hp => ?_⟩
      have np := np_ wd4 hp
      have s5 : Same G4 (upd G4 p (.lst [V.str "always", V.str (nm TM k)])) := Same.add hp
      have e5 : (upd G4 p (.lst [V.str "always", V.str (nm TM k)])) p = some (.lst [V.str "always", V.str (nm TM k)]) := upd_same
      generalize upd G4 p (.lst [V.str "always", V.str (nm TM k)]) = G5 at s5 e5 ⊢
      have wd5 := wd4.same s5
      refine ⟨_, rfl, S, 8, rfl, wd5.kp.st, by decide, by decide, fun rb G6 rb0 rb1 k6 => ?_⟩
      have wd6 := wd5.on k6
      have hd : 0 ≤ rb.fdiv 7 ∧ rb.fdiv 7 < 2 := by
        rw [Int.fdiv_eq_ediv_of_nonneg _ (by decide)]
        omega
      obtain ⟨k', hk', ek'⟩ : ∃ k', k' < 7 ∧ (if rb.fdiv 7 = 0 then V.str "always" else V.str (nm TM k)) = V.str (nm TM k') := by
        by_cases c : rb.fdiv 7 = 0
        · exact ⟨0, by decide, by rw [if_pos c]; rfl⟩
        · exact ⟨k, hk, by rw [if_neg c]⟩
      refine ⟨_, _, rfl, rfl, ⟨by decide, by decide⟩, _, _, _, _, rfl, rfl, SqL.of (k6.but _ _ np e5), two_ hd.1 hd.2, ?_⟩
      rw [ek']
      refine ⟨_, rfl, line5 (by simp), fun u hu => ?_⟩
      have s7 : Same G6 (upd G6 u (.tup [V.str "jump", V.str (nm TM k'), V.int (g : Nat)])) := Same.add hu
      have e7 : (upd G6 u (.tup [V.str "jump", V.str (nm TM k'), V.int (g : Nat)])) u = some (.tup [V.str "jump", V.str (nm TM k'), V.int (g : Nat)]) := upd_same
      generalize upd G6 u (.tup [V.str "jump", V.str (nm TM k'), V.int (g : Nat)]) = G7 at s7 e7 ⊢
      have wd7 := wd6.same s7
      obtain ⟨ei, eo⟩ := jump_item (n := g) hk'
      have ht := ht n0
      refine ⟨_, rfl, _, rfl, L, _, _, t, rfl, rfl, wd7.at_, by rw [wd7.rlen]; exact ixN_of ht, _, _, g, _, _, rfl, wd7.put (by rw [ei]; exact SqT.of e7) eo (by omega), fun _ => by omega⟩
    · rintro σ G ⟨rs, ls, t, v5, v6, rfl, wd, ht⟩
      refine ⟨_, rfl, _, rfl, S, 3, rfl, wd.kp.st, by decide, by decide, fun r2 G1 r20 r21 k1 => ?_⟩
      have wd1 := wd.on k1
      clear wd
      refine ⟨_, _, rfl, rfl, .inr ⟨_, rfl, ?_⟩⟩
      have hz2 : 0 ≤ (if decide (0 < r2) = true then (1 : Int) else 0) ∧ (if decide (0 < r2) = true then (1 : Int) else 0) ≤ 1 := by
        split <;> decide
      generalize (if decide (0 < r2) = true then (1 : Int) else 0) = z2 at hz2 ⊢
      obtain ⟨nz, hnz⟩ : ∃ nz, nz = ((n : Nat) : Int) * z2 := ⟨_, rfl⟩
      have hnz2 : 0 ≤ nz ∧ nz ≤ n := by
        have e : z2 = 0 ∨ z2 = 1 := by omega
        rcases e with rfl | rfl
        · rw [Int.mul_zero] at hnz; omega
        · rw [Int.mul_one] at hnz; omega
      have np_ : ∀ {G : Hp} {rs : List V} {ls : List Ld} {p : Addr}, Wd K S H G L rs ls n → G p = none → p ≠ S.st := fun wd hp => by
        obtain ⟨l, hl⟩ := wd.kp.st.lst
        exact Ne.symm (ne_of_none hl hp)
      have min_ : ∀ (x : Int), 0 ≤ x → ∃ g : Nat, (if x < ((n : Nat) : Int) then x else ((n : Nat) : Int)) = (g : Nat) ∧ g ≤ n := fun x hx => by
        by_cases c : x < ((n : Nat) : Int)
        · exact ⟨x.toNat, by rw [if_pos c]; omega, by omega⟩
        · exact ⟨n, by rw [if_neg c], Nat.le_refl _⟩
      refine ⟨_, _, rfl, rfl, .inl ⟨by omega, by omega⟩, nz, by rw [hnz], by omega, by omega, for_range (n := nz.toNat) (fun i σ G => ∃ (rs : List V) (ls : List Ld) (v4 v5 v6 v7 v8 : Option V), σ = [some (.ref S.st), some (.int (m : Nat)), some (.ref L), some (.int (n : Nat)), v4, v5, v6, v7, v8, none, none] ∧ Wd K S H G L rs ls n)
        ⟨rs, ls, _, v5, v6, none, none, rfl, wd1⟩ ?_ ?_⟩
      · rintro i σ G hi ⟨rs, ls, v4, v5, v6, v7, v8, rfl, wd⟩
        have hi : i < n := by omega
        simp only [Int.zero_add]
        refine ⟨_, rfl, S, 6, rfl, wd.kp.st, by decide, by decide, fun w G1 w0 w1 k1 => ?_⟩
        have wd1 := wd.on k1
        refine ⟨_, rfl, rfl, _, rfl, ?_⟩
        show if decide (V.int w = V.int 0) = true then _ else _
        by_cases c0 : w = 0
        · rw [decide_eq_true (by rw [c0])]
          refine iteT ⟨line5 (by simp), fun u hu => ?_⟩
          have s2 : Same G1 (upd G1 u (.tup [V.str "rest"])) := Same.add hu
          have e2 : (upd G1 u (.tup [V.str "rest"])) u = some (.tup [V.str "rest"]) := upd_same
          generalize upd G1 u (.tup [V.str "rest"]) = G2 at s2 e2 ⊢
          have wd2 := wd1.same s2
          obtain ⟨ei, eo⟩ := rest_item
          exact ⟨_, rfl, _, rfl, L, _, _, i, rfl, rfl, wd2.at_, by rw [wd2.rlen]; exact ixN_of hi, _, _, _, _, _, _, _, rfl, wd2.put (by rw [ei]; exact SqT.of e2) eo (Nat.zero_le _)⟩
        · rw [decide_eq_false (fun z => c0 (V.int.inj z))]
          refine iteF ⟨_, rfl, rfl, _, rfl, ?_⟩
          show if decide (V.int w = V.int 1) = true then _ else _
          by_cases c1 : w = 1
          · rw [decide_eq_true (by rw [c1])]
            refine iteT ⟨_, rfl, _, rfl, _, _, rfl, rfl, _, rfl, S, 3, rfl, wd1.kp.st, by decide, by decide, fun r3 G2 r30 r31 k2 => ?_⟩
            have wd2 := wd1.on k2
            refine ⟨_, _, rfl, rfl, _, _, rfl, ?_⟩
            obtain ⟨g1, eg1, hg1⟩ := min_ ((i : Nat) + 1 + r3) (by omega)
            refine ⟨_, rfl, _, rfl, _, _, rfl, rfl, S, _, rfl, wd2.kp.st, by omega, by omega, fun r4 G3 r40 r41 k3 => ?_⟩
            have wd3 := wd2.on k3
            refine ⟨line5 (by simp), fun l hl => ?_⟩
            have nl := np_ wd3 hl
            dsimp only
            rw [eg1]
            have s4 : Same G3 (upd G3 l (.lst [V.int (g1 : Nat), V.int r4])) := Same.add hl
            have e4 : (upd G3 l (.lst [V.int (g1 : Nat), V.int r4])) l = some (.lst [V.int (g1 : Nat), V.int r4]) := upd_same
            generalize upd G3 l (.lst [V.int (g1 : Nat), V.int r4]) = G4 at s4 e4 ⊢
            have wd4 := wd3.same s4
            refine ⟨_, rfl, _, rfl, S, 2, rfl, wd4.kp.st, by decide, by decide, fun r5 G5 r50 r51 k5 => ⟨_, _, _, _, rfl, rfl, SqL.of (k5.but _ _ nl e4), two_ r50 r51, line5 (by simp), fun u hu => ?_⟩⟩
            obtain ⟨g, hg, eg⟩ : ∃ g : Nat, g ≤ n ∧ (if r5 = 0 then V.int (g1 : Nat) else V.int r4) = V.int (g : Nat) := by
              by_cases c : r5 = 0
              · exact ⟨g1, hg1, by rw [if_pos c]⟩
              · exact ⟨r4.toNat, by omega, by rw [if_neg c]; congr 1; omega⟩
            rw [eg]
            have wd5 := wd4.on k5
            have s6 : Same G5 (upd G5 u (.tup [V.str "jump", V.str "always", V.int (g : Nat)])) := Same.add hu
            have e6 : (upd G5 u (.tup [V.str "jump", V.str "always", V.int (g : Nat)])) u = some (.tup [V.str "jump", V.str "always", V.int (g : Nat)]) := upd_same
            generalize upd G5 u (.tup [V.str "jump", V.str "always", V.int (g : Nat)]) = G6 at s6 e6 ⊢
            have wd6 := wd5.same s6
            obtain ⟨ei, eo⟩ := aj_item g
            exact ⟨_, rfl, _, rfl, L, _, _, i, rfl, rfl, wd6.at_, by rw [wd6.rlen]; exact ixN_of hi, _, _, _, _, _, _, _, rfl, wd6.put (by rw [ei]; exact SqT.of e6) eo hg⟩
          · rw [decide_eq_false (fun z => c1 (V.int.inj z))]
            refine iteF ⟨_, rfl, rfl, _, rfl, ?_⟩
            show if decide (V.int w = V.int 2) = true then _ else _
            by_cases c2 : w = 2
            · rw [decide_eq_true (by rw [c2])]
              refine iteT ⟨rfl, fun q G2 hq s2 hq2 => ⟨_, rfl, S, 7, rfl, (wd1.same s2).kp.st, by decide, by decide, fun rr G3 rr0 rr1 k3 => times_ wd1 (fun k G4 hk k4 => ?_) q G2 hq s2 hq2 rr G3 rr0 rr1 k3⟩⟩
              have wd4 := wd1.on k4
              refine ⟨_, rfl, _, rfl, _, _, rfl, rfl, _, rfl, S, 4, rfl, wd4.kp.st, by decide, by decide, fun r3 G5 r30 r31 k5 => ?_⟩
              have wd5 := wd4.on k5
              obtain ⟨g1, eg1, hg1⟩ := min_ ((i : Nat) + 1 + r3) (by omega)
              refine ⟨_, _, rfl, rfl, _, _, rfl, line5 (by simp), fun u hu => ?_⟩
              dsimp only
              rw [eg1]
              have s6 : Same G5 (upd G5 u (.tup [V.str "jump", V.str (nm TM k), V.int (g1 : Nat)])) := Same.add hu
              have e6 : (upd G5 u (.tup [V.str "jump", V.str (nm TM k), V.int (g1 : Nat)])) u = some (.tup [V.str "jump", V.str (nm TM k), V.int (g1 : Nat)]) := upd_same
              generalize upd G5 u (.tup [V.str "jump", V.str (nm TM k), V.int (g1 : Nat)]) = G6 at s6 e6 ⊢
              have wd6 := wd5.same s6
              obtain ⟨ei, eo⟩ := jump_item (n := g1) hk
              exact ⟨_, rfl, _, rfl, L, _, _, i, rfl, rfl, wd6.at_, by rw [wd6.rlen]; exact ixN_of hi, _, _, _, _, _, _, _, rfl, wd6.put (by rw [ei]; exact SqT.of e6) eo hg1⟩
            · rw [decide_eq_false (fun z => c2 (V.int.inj z))]
              exact iteF ⟨_, _, _, _, _, _, _, rfl, wd1⟩
      · rintro σ G ⟨rs, ls, v4, v5, v6, v7, v8, rfl, wd⟩
        refine ⟨_, rfl, S, 4, rfl, wd.kp.st, by decide, by decide, fun r6 G1 r60 r61 k1 => ?_⟩
        have wd1 := wd.on k1
        clear wd
        have hz3 : 0 ≤ (if decide (5 < ((n : Nat) : Int)) = true then (1 : Int) else 0) ∧ (if decide (5 < ((n : Nat) : Int)) = true then (1 : Int) else 0) ≤ 1 ∧ (n ≤ 5 → (if decide (5 < ((n : Nat) : Int)) = true then (1 : Int) else 0) = 0) := by
          by_cases c : n ≤ 5
          · rw [if_neg (by rw [decide_eq_false (by omega)]; decide)]; exact ⟨by decide, by decide, fun _ => rfl⟩
          · rw [if_pos (decide_eq_true (by omega))]; exact ⟨by decide, by decide, fun h => absurd h c⟩
        refine ⟨_, rfl, _, _, rfl, rfl, .inr ⟨_, rfl, ?_⟩⟩
        generalize (if decide (5 < ((n : Nat) : Int)) = true then (1 : Int) else 0) = z3 at hz3 ⊢
        obtain ⟨rz3, hrz3⟩ : ∃ rz, rz = r6 * z3 := ⟨_, rfl⟩
        have hr3 : 0 ≤ rz3 ∧ rz3 ≤ r6 ∧ (n ≤ 5 → rz3 = 0) := by
          have e : z3 = 0 ∨ z3 = 1 := by omega
          rcases e with rfl | rfl
          · rw [Int.mul_zero] at hrz3; exact ⟨by omega, by omega, fun _ => hrz3⟩
          · rw [Int.mul_one] at hrz3; exact ⟨by omega, by omega, fun h => absurd (hz3.2.2 h) (by decide)⟩
        refine ⟨_, _, rfl, rfl, .inl ⟨by omega, by omega⟩, rz3, by rw [hrz3], by omega, by omega, for_range (n := rz3.toNat) (fun i σ G => ∃ (rs : List V) (ls : List Ld) (v4 v5 v6 v7 v8 v9 v10 : Option V), σ = [some (.ref S.st), some (.int (m : Nat)), some (.ref L), some (.int (n : Nat)), v4, v5, v6, v7, v8, v9, v10] ∧ Wd K S H G L rs ls n)
          ⟨rs, ls, v4, v5, v6, v7, v8, none, none, rfl, wd1⟩ ?_ ?_⟩
        · rintro i σ G hi ⟨rs, ls, v4, v5, v6, v7, v8, v9, v10, rfl, wd⟩
          have n5 : 5 < n := by
            refine Nat.lt_of_not_le fun c => ?_
            rw [hr3.2.2 c] at hi
            exact absurd hi (Nat.not_lt_zero _)
          refine ⟨_, rfl, _, rfl, _, _, rfl, rfl, S, _, rfl, wd.kp.st, by omega, by omega, fun r G1 r0 r1 k1 => ?_⟩
          have wd1 := wd.on k1
          obtain ⟨a, rfl⟩ := Int.eq_ofNat_of_zero_le r0
          have ha : a + 2 < n := by omega
          refine ⟨rfl, fun q G2 hq s2 hq2 => ⟨_, rfl, S, 7, rfl, (wd1.same s2).kp.st, by decide, by decide, fun rr G3 rr0 rr1 k3 => times_ wd1 (fun k G4 hk k4 => ?_) q G2 hq s2 hq2 rr G3 rr0 rr1 k3⟩⟩
          have wd4 := wd1.on k4
          refine ⟨_, rfl, _, _, rfl, rfl, line5 (by simp), fun u hu => ?_⟩
          have hu := hu
          have eu : V.int (((a : Nat) : Int) + 1) = V.int ((a + 1 : Nat) : Int) := by congr 1
          dsimp only
          rw [eu]
          have s5 : Same G4 (upd G4 u (.tup [V.str "jump", V.str (nm TM k), V.int ((a + 1 : Nat) : Int)])) := Same.add hu
          have e5 : (upd G4 u (.tup [V.str "jump", V.str (nm TM k), V.int ((a + 1 : Nat) : Int)])) u = some (.tup [V.str "jump", V.str (nm TM k), V.int ((a + 1 : Nat) : Int)]) := upd_same
          generalize upd G4 u (.tup [V.str "jump", V.str (nm TM k), V.int ((a + 1 : Nat) : Int)]) = G5 at s5 e5 ⊢
          have wd5 := wd4.same s5
          obtain ⟨ei, eo⟩ := jump_item (n := a + 1) hk
          refine ⟨_, rfl, _, rfl, L, _, _, a, rfl, rfl, wd5.at_, by rw [wd5.rlen]; exact ixN_of (by omega), ?_⟩
          have wd6 := wd5.put (k := a) (p := u) (x := (.jump k 0 false, a + 1)) (by rw [ei]; exact SqT.of e5) eo (by omega)
          generalize upd G5 L _ = G6 at wd6 ⊢
          refine ⟨_, rfl, _, rfl, _, _, rfl, rfl, S, _, rfl, wd6.kp.st, by omega, by omega, fun r7 G7 r70 r71 k7 => ?_⟩
          have wd7 := wd6.on k7
          obtain ⟨b, rfl⟩ := Int.eq_ofNat_of_zero_le r70
          refine ⟨line5 (by simp), fun u2 hu2 => ?_⟩
          have s8 : Same G7 (upd G7 u2 (.tup [V.str "jump", V.str "always", V.int (b : Nat)])) := Same.add hu2
          have e8 : (upd G7 u2 (.tup [V.str "jump", V.str "always", V.int (b : Nat)])) u2 = some (.tup [V.str "jump", V.str "always", V.int (b : Nat)]) := upd_same
          generalize upd G7 u2 (.tup [V.str "jump", V.str "always", V.int (b : Nat)]) = G8 at s8 e8 ⊢
          have wd8 := wd7.same s8
          obtain ⟨ei2, eo2⟩ := aj_item b
          refine ⟨_, rfl, _, rfl, _, _, rfl, rfl, L, _, _, a + 1, rfl, rfl, wd8.at_, by rw [wd8.rlen, show ((a : Nat) : Int) + 1 = ((a + 1 : Nat) : Int) by omega]; exact ixN_of (by omega), ?_⟩
          have wd9 := wd8.put (k := a + 1) (p := u2) (x := (.jump 0 0 false, b)) (by rw [ei2]; exact SqT.of e8) eo2 (by omega)
          generalize upd G8 L _ = G9 at wd9 ⊢
          refine ⟨_, rfl, line5 (by simp), fun u3 hu3 => ?_⟩
          have sa : Same G9 (upd G9 u3 (.tup [V.str "call", V.int (a : Nat)])) := Same.add hu3
          have ea : (upd G9 u3 (.tup [V.str "call", V.int (a : Nat)])) u3 = some (.tup [V.str "call", V.int (a : Nat)]) := upd_same
          generalize upd G9 u3 (.tup [V.str "call", V.int (a : Nat)]) = Ga at sa ea ⊢
          have wda := wd9.same sa
          obtain ⟨ei3, eo3⟩ := call_item a
          refine ⟨_, rfl, _, rfl, _, rfl, S, _, rfl, wda.kp.st, by omega, by omega, fun r9 Gb r90 r91 kb => ?_⟩
          have wdb := wda.on kb
          obtain ⟨c, rfl⟩ := Int.eq_ofNat_of_zero_le r90
          exact ⟨L, _, _, c, rfl, rfl, wdb.at_, by rw [wdb.rlen]; exact ixN_of (by omega), _, _, _, _, _, _, _, _, _, rfl, wdb.put (by rw [ei3]; exact kb.tup (SqT.of ea)) eo3 (by omega)⟩
        · rintro σ G ⟨rs, ls, v4, v5, v6, v7, v8, v9, v10, rfl, wd⟩
          exact ⟨_, rfl, q L rs ls G wd.kp wd.new wd.nst wd.at_ wd.tups (by rw [wd.len]; exact wd.ok) (by rw [wd.len]; exact hlm)⟩
abbrev KnWinding (P : Program) (w : World) (K : PySem.W.Frag) (mg : Str → Option Value) (base : Heap) : Prop := Kn P w K mg base CX0 5 "_law_winding" ["_law_state_here", "_law_most"] [] (spList K)
end
end Bm
namespace Bm
end Bm
set_option maxHeartbeats 800000
namespace Bm
open PySem PySem.Spec PyProof.Rows L2
/-! the deed that words may be -/
def sgn (b h : Int) : Int := if h ≤ b then b - 2 * h else b
def gsGoing (form f near : Int) (bh : List V) : List V :=
  if form = 7 then [.str "jump"] ++ ((TM.map V.str).drop f.toNat).take 1 ++ [.int near, .bl false]
  else if form = 8 then [.str "jump"] ++ ((TM.map V.str).drop f.toNat).take 1 ++ bh ++ [.bl true]
  else if form = 9 then [.str "call", .int near, .bl false]
  else if form = 10 then [.str "call"] ++ bh ++ [.bl true]
  else []
def gs (word p : Int) (bh : List V) : List V :=
  if word / 4096 = 0 then ((SG.map V.str).drop (word / 512 % 8).toNat).take 1 ++ (if 2 < word / 512 % 8 then [.int (word / 64 % 8)] else [])
  else if word / 4096 = 1 then [.str (nm SM (word % 8).toNat), .int (word / 512 % 8), .int (word / 64 % 8), .int (word / 8 % 8)]
  else if word / 4096 = 2 then [.str "plus", .int (word / 512 % 8), .int (word / 64 % 8), .int (sgn (word % 64) 32)]
  else if word / 4096 = 3 then [.str "set", .int (word / 512 % 8), .int (word % 512)]
  else if word / 4096 = 4 then [.str "high", .int (word / 512 % 8), .int (word % 128)]
  else if word / 4096 = 5 then [.str "load", .int (word / 512 % 8), .int (word / 64 % 8), .int (word % 64)]
  else if word / 4096 = 6 then [.str "store", .int (word / 512 % 8), .int (word / 64 % 8), .int (word % 64)]
  else gsGoing (word / 4096) (word / 512 % 8) (p + 1 + sgn (word % 32) 16) bh
theorem list3 {α : Type} {a b c x y z : α} (h1 : a = x) (h2 : b = y) (h3 : c = z) : [a, b, c] = [x, y, z] := by rw [h1, h2, h3]
theorem mask9 (x : Int) : Builtin.bitAnd x 511 = x % 512 := PySem.W.kbt_mask x 9
section
variable {P : Program} {w : World} {K : PySem.W.Frag} {mg : Str → Option Value} {base : Heap} {f : Addr} {fd : FuncData} {dvs : List V} {odd : List Str}
def spSigned : Sp := fun vs H Q _ => ∃ b h : Int, vs = [.int b, .int h] ∧ Q (.int (sgn b h)) H
abbrev KnSi (P : Program) (w : World) (K : PySem.W.Frag) (mg : Str → Option Value) (base : Heap) : Prop := Kn P w K mg base CX0 1 "signed" ["bits", "half"] [] spSigned
def spGGoing (K : PySem.W.Frag) : Sp := fun vs H Q _ => ∃ (form f near : Int) (b : Addr) (bh : List V), vs = [.int form, .int f, .int near, .ref b] ∧ SqT K H b bh ∧ bh.length ≤ 1 ∧ 0 ≤ f ∧ f < 8 ∧ ∀ q H', Same H H' → SqT K H' q (gsGoing form f near bh) → Q (.ref q) H'
abbrev KnGG (P : Program) (w : World) (K : PySem.W.Frag) (mg : Str → Option Value) (base : Heap) : Prop := Kn P w K mg base CX0 1 "guessed_going" ["form", "first", "near", "behind"] [] (spGGoing K)
def spGuess (K : PySem.W.Frag) : Sp := fun vs H Q _ => ∃ (t : Addr) (ws : List Int) (p : Nat) (x : Int), vs = [.ref t, .int (p : Nat)] ∧ SqT K H t (vInts ws) ∧ ws[p]? = some x ∧ 0 ≤ x ∧ x < 65536 ∧
  ∀ q H', Same H H' → SqT K H' q (gs x (p : Nat) (((vInts ws).drop (p + 1)).take 1)) → Q (.ref q) H'
end
end Bm
set_option maxHeartbeats 1600000
namespace Bm
open PySem PySem.Spec PyProof.Rows L2
/-! deeds are told apart by what they are told as -/
def De.code : De → Nat
  | .sgl _ => 0
  | .reg _ _ => 1
  | .sum _ _ _ _ => 2
  | .plus _ _ _ => 3
  | .set _ _ => 4
  | .high _ _ => 5
  | .load _ _ _ => 6
  | .store _ _ _ => 7
  | .jump _ _ _ => 8
  | .call _ _ => 9
def nameCode (z : Str) : Nat := if z ∈ SG.take 3 then 0 else if z ∈ SG then 1 else if z ∈ SM then 2 else if z = "plus" then 3 else if z = "set" then 4 else if z = "high" then 5 else if z = "load" then 6 else if z = "store" then 7 else if z = "jump" then 8 else 9
theorem sg_code : ∀ k, k < 7 → nameCode (nm SG k) = if k < 3 then 0 else 1 := by decide +kernel
theorem sm_code : ∀ k, k < 8 → nameCode (nm SM k) = 2 := by decide +kernel
theorem sg_inj : ∀ k, k < 7 → ∀ j, j < 7 → nm SG k = nm SG j → k = j := by decide +kernel
theorem sm_inj : ∀ k, k < 8 → ∀ j, j < 8 → nm SM k = nm SM j → k = j := by decide +kernel
theorem tm_inj : ∀ k, k < 7 → ∀ j, j < 7 → nm TM k = nm TM j → k = j := by decide +kernel
theorem vals_code {d : De} (h : d.ok) : ∃ z r, d.vals = .str z :: r ∧ nameCode z = d.code := by
  cases d with
  | sgl k =>
    have hk : k < 3 := h
    exact ⟨_, _, rfl, by rw [sg_code k (by omega), if_pos hk]; rfl⟩
  | reg k a => exact ⟨_, _, rfl, by rw [sg_code k h.2.1, if_neg (by have := h.1; omega)]; rfl⟩
  | sum k d a b => exact ⟨_, _, rfl, sm_code k h.1⟩
  | plus => exact ⟨_, _, rfl, (by decide +kernel : nameCode "plus" = 3)⟩
  | set => exact ⟨_, _, rfl, (by decide +kernel : nameCode "set" = 4)⟩
  | high => exact ⟨_, _, rfl, (by decide +kernel : nameCode "high" = 5)⟩
  | load => exact ⟨_, _, rfl, (by decide +kernel : nameCode "load" = 6)⟩
  | store => exact ⟨_, _, rfl, (by decide +kernel : nameCode "store" = 7)⟩
  | jump => exact ⟨_, _, rfl, (by decide +kernel : nameCode "jump" = 8)⟩
  | call => exact ⟨_, _, rfl, (by decide +kernel : nameCode "call" = 9)⟩
theorem vals_inj {d e : De} (hd : d.ok) (he : e.ok) (h : d.vals = e.vals) : d = e := by
  obtain ⟨z, r, e1, c1⟩ := vals_code hd
  obtain ⟨z', r', e2, c2⟩ := vals_code he
  have hz : z = z' := by
    rw [e1, e2] at h
    exact V.str.inj (List.cons.inj h).1
  subst hz
  have hc : d.code = e.code := c1.symm.trans c2
  clear e1 e2 c1 c2
  cases d <;> cases e <;> first | (simp [De.code] at hc; done) | skip
  all_goals clear hc
  all_goals simp only [De.vals, List.cons.injEq, V.str.injEq, V.int.injEq, V.bl.injEq, and_true, true_and] at h
  · rename_i k j
    rw [sg_inj k (Nat.lt_of_lt_of_le (show k < 3 from hd) (by decide)) j (Nat.lt_of_lt_of_le (show j < 3 from he) (by decide)) h]
  · rw [sg_inj _ hd.2.1 _ he.2.1 h.1, h.2]
  · rw [sm_inj _ hd.1 _ he.1 h.1, h.2.1, h.2.2.1, h.2.2.2]
  · rw [h.1, h.2.1, h.2.2]
  · rw [h.1, h.2]
  · rw [h.1, h.2]
  · rw [h.1, h.2.1, h.2.2]
  · rw [h.1, h.2.1, h.2.2]
  · rw [tm_inj _ hd.1 _ he.1 h.1, h.2.1, h.2.2]
  · rw [h.1, h.2]
/-- the deed that stands at a place -/
def IsAt (ws : List Int) (p : Nat) (d : De) : Prop := d.ok ∧ d.reached p ∧ (ws.drop p).take (d.words p).length = d.words p
theorem at_words {ws : List Int} {p : Nat} {d : De} {x : Int} (h : IsAt ws p d) (hx : ws[p]? = some x) : (∃ y, d.words p = [x, y] ∧ ws[p + 1]? = some y) ∨ d.words p = [x] := by
  obtain ⟨_, _, h⟩ := h
  have hp := (List.getElem?_eq_some_iff.mp hx)
  obtain ⟨hl, hxe⟩ := hp
  rw [List.drop_eq_getElem_cons hl, hxe] at h
  have two : ∀ a b, d.words p = [a, b] → (∃ y, d.words p = [x, y] ∧ ws[p + 1]? = some y) := fun a b e => by
    rw [e] at h
    cases hd : ws.drop (p + 1) with
    | nil => rw [hd] at h; cases h
    | cons y r =>
      rw [hd] at h
      have h : [x, y] = [a, b] := h
      refine ⟨y, by rw [e, h], ?_⟩
      have := congrArg (fun l : List Int => l[0]?) hd
      simpa using this
  have one : ∀ a, d.words p = [a] → d.words p = [x] := fun a e => by
    rw [e] at h
    have h : [x] = [a] := h
    rw [e, h]
  cases d with
  | jump k g f => cases f with
    | true => exact .inl (two _ _ rfl)
    | false => exact .inr (one _ rfl)
  | call g f => cases f with
    | true => exact .inl (two _ _ rfl)
    | false => exact .inr (one _ rfl)
  | _ => exact .inr (one _ rfl)
theorem deed_eq {z : Str} {r : List V} {ks : List Str} (e : PT.lookup z = some ks) : deedB (.str z :: r) = (decide (r.length = ks.length) && ((ks.zip r).all fun p => partB p.1 p.2)) := by
  show (match PT.lookup z with
    | some ks => decide (r.length = ks.length) && ((ks.zip r).all fun p => partB p.1 p.2)
    | none => false) = _
  rw [e]
theorem deed_no {z : Str} {r : List V} (e : PT.lookup z = none) : deedB (.str z :: r) = false := by
  show (match PT.lookup z with
    | some ks => decide (r.length = ks.length) && ((ks.zip r).all fun p => partB p.1 p.2)
    | none => false) = _
  rw [e]
theorem deed_len {z : Str} {r : List V} {ks : List Str} (e : PT.lookup z = some ks) (h : r.length ≠ ks.length) : deedB (.str z :: r) = false := by
  rw [deed_eq e, decide_eq_false h, Bool.false_and]
theorem look_jump : PT.lookup ("jump" : Str) = some (["when", "goal", "far"] : List Str) := by decide +kernel
theorem look_call : PT.lookup ("call" : Str) = some (["goal", "far"] : List Str) := by decide +kernel
theorem part_when (v : V) : partB "when" v = isTm v := if_pos rfl
theorem part_far (v : V) : partB "far" v = isBl v := (if_neg (by decide +kernel)).trans (if_pos rfl)
theorem part_goal (v : V) : partB "goal" v = numB v 0 65535 := by
  have e : ST.lookup ("goal" : Str) = some ((0, 65535) : Int × Int) := by decide +kernel
  unfold partB
  rw [if_neg (by decide +kernel), if_neg (by decide +kernel), e]
theorem jump3 (v0 v1 v2 : V) : deedB [.str "jump", v0, v1, v2] = (isTm v0 && (numB v1 0 65535 && isBl v2)) := by
  rw [deed_eq look_jump]
  show (true && (partB "when" v0 && (partB "goal" v1 && (partB "far" v2 && true)))) = _
  rw [part_when, part_goal, part_far, Bool.true_and, Bool.and_true]
theorem call2 (v1 v2 : V) : deedB [.str "call", v1, v2] = (numB v1 0 65535 && isBl v2) := by
  rw [deed_eq look_call]
  show (true && (partB "goal" v1 && (partB "far" v2 && true))) = _
  rw [part_goal, part_far, Bool.true_and, Bool.and_true]
theorem sg_one : ∀ k, k < 7 → ((SG.map V.str).drop k).take 1 = [.str (nm SG k)] := by decide +kernel
theorem tm_one : ∀ k, k < 7 → ((TM.map V.str).drop k).take 1 = [.str (nm TM k)] := by decide +kernel
theorem sg_seven : ((SG.map V.str).drop 7).take 1 = [] := by decide +kernel
theorem tm_seven : ((TM.map V.str).drop 7).take 1 = [] := by decide +kernel
theorem sgn_near (x p : Int) : near (p + 1 + sgn (x % 32) 16) p := by
  unfold near sgn
  split <;> omega
/-- what the guess may look like -/
inductive GsC (p : Int) (bh : List V) : List V → Prop
  | deed (d : De) : d.ok → d.goes = false → GsC p bh d.vals
  | num (s : Int) : GsC p bh [.int s]
  | jn (k : Nat) (g : Int) : k < 7 → near g p → GsC p bh [.str "jump", .str (nm TM k), .int g, .bl false]
  | jn7 (g : Int) : GsC p bh [.str "jump", .int g, .bl false]
  | jf (k : Nat) : k < 7 → GsC p bh (.str "jump" :: .str (nm TM k) :: (bh ++ [.bl true]))
  | jf7 : GsC p bh (.str "jump" :: (bh ++ [.bl true]))
  | cn (g : Int) : near g p → GsC p bh [.str "call", .int g, .bl false]
  | cf : GsC p bh (.str "call" :: (bh ++ [.bl true]))
  | nil : GsC p bh []
theorem gs_cases {x p : Int} {bh : List V} (x0 : 0 ≤ x) (x1 : x < 65536) : GsC p bh (gs x p bh) := by
  have f8 : 0 ≤ x / 512 % 8 ∧ x / 512 % 8 < 8 := by omega
  have s8 : r3 (x / 64 % 8) := by unfold r3; omega
  have d8 : r3 (x / 512 % 8) := by unfold r3; omega
  obtain ⟨k, hk⟩ : ∃ k : Nat, x / 512 % 8 = (k : Int) := ⟨(x / 512 % 8).toNat, by omega⟩
  have k8 : k < 8 := by omega
  unfold gs
  split
  · rw [hk, Int.toNat_natCast]
    by_cases h7 : k < 7
    · rw [sg_one k h7]
      by_cases h2 : 2 < (k : Int)
      · rw [if_pos h2]
        exact GsC.deed (.reg k (x / 64 % 8)) ⟨by omega, h7, s8⟩ rfl
      · rw [if_neg h2]
        exact GsC.deed (.sgl k) (show k < 3 by omega) rfl
    · have e7 : k = 7 := by omega
      subst e7
      rw [sg_seven, if_pos (by decide)]
      exact GsC.num _
  · split
    · exact GsC.deed (.sum (x % 8).toNat (x / 512 % 8) (x / 64 % 8) (x / 8 % 8)) ⟨by omega, d8, s8, by unfold r3; omega⟩ rfl
    · split
      · exact GsC.deed (.plus (x / 512 % 8) (x / 64 % 8) (sgn (x % 64) 32)) ⟨d8, s8, by unfold sgn; split <;> omega, by unfold sgn; split <;> omega⟩ rfl
      · split
        · exact GsC.deed (.set (x / 512 % 8) (x % 512)) ⟨d8, by omega, by omega⟩ rfl
        · split
          · exact GsC.deed (.high (x / 512 % 8) (x % 128)) ⟨d8, by omega, by omega⟩ rfl
          · split
            · exact GsC.deed (.load (x / 512 % 8) (x / 64 % 8) (x % 64)) ⟨d8, s8, by omega, by omega⟩ rfl
            · split
              · exact GsC.deed (.store (x / 512 % 8) (x / 64 % 8) (x % 64)) ⟨d8, s8, by omega, by omega⟩ rfl
              · unfold gsGoing
                rw [hk, Int.toNat_natCast]
                have hn := sgn_near x p
                generalize p + 1 + sgn (x % 32) 16 = g at hn
                split
                · by_cases h7 : k < 7
                  · rw [tm_one k h7]
                    exact GsC.jn k g h7 hn
                  · have e7 : k = 7 := by omega
                    subst e7
                    rw [tm_seven]
                    exact GsC.jn7 g
                · split
                  · by_cases h7 : k < 7
                    · rw [tm_one k h7]
                      exact GsC.jf k h7
                    · have e7 : k = 7 := by omega
                      subst e7
                      rw [tm_seven]
                      exact GsC.jf7
                  · split
                    · exact GsC.cn g hn
                    · split
                      · exact GsC.cf
                      · exact GsC.nil
theorem gs_ok {K : PySem.W.Frag} {H : Hp} {p : Int} {bh l : List V} (h : GsC p bh l) (hb : ∀ v ∈ bh, ∃ i, v = .int i) : ∀ v ∈ l, OkV K H v := by
  have ob : ∀ v ∈ bh ++ [.bl true], OkV K H v := fun v hv => by
    rcases List.mem_append.mp hv with hv | hv
    · obtain ⟨i, rfl⟩ := hb v hv
      exact .int i
    · rw [List.mem_singleton.mp hv]
      exact .bl true
  cases h with
  | deed d _ _ => exact vals_ok d
  | num s => intro v hv; rw [List.mem_singleton.mp hv]; exact .int s
  | jn k g _ _ => exact vals_ok (.jump k g false)
  | jn7 g =>
    intro v hv
    simp only [List.mem_cons, List.not_mem_nil, or_false] at hv
    rcases hv with rfl | rfl | rfl <;> first | exact .str _ | exact .int _ | exact .bl _
  | jf k _ =>
    intro v hv
    rcases List.mem_cons.mp hv with rfl | hv
    · exact .str _
    · rcases List.mem_cons.mp hv with rfl | hv
      · exact .str _
      · exact ob v hv
  | jf7 =>
    intro v hv
    rcases List.mem_cons.mp hv with rfl | hv
    · exact .str _
    · exact ob v hv
  | cn g _ => exact vals_ok (.call g false)
  | cf =>
    intro v hv
    rcases List.mem_cons.mp hv with rfl | hv
    · exact .str _
    · exact ob v hv
  | nil => intro v hv; cases hv
theorem gs_name {p : Int} {bh l : List V} (h : GsC p bh l) (z : Str) (r : List V) (e : l = .str z :: r) : ∃ ks, (z, ks) ∈ PT := by
  have jj : ∀ (y : Str), V.str y = V.str z → ∀ (ks : List Str), PT.lookup y = some ks → ∃ ks, (z, ks) ∈ PT := fun y ey ks hk => by
    rw [← V.str.inj ey]
    exact ⟨ks, mem_look hk⟩
  cases h with
  | deed d hd _ => exact deed_name (r := r) (by rw [← e]; exact deed_vals hd)
  | num s => cases e
  | jn k g _ _ => exact jj _ (List.cons.inj e).1 _ look_jump
  | jn7 g => exact jj _ (List.cons.inj e).1 _ look_jump
  | jf k _ => exact jj _ (List.cons.inj e).1 _ look_jump
  | jf7 => exact jj _ (List.cons.inj e).1 _ look_jump
  | cn g _ => exact jj _ (List.cons.inj e).1 _ look_call
  | cf => exact jj _ (List.cons.inj e).1 _ look_call
  | nil => cases e
theorem gs_deed {p : Int} {bh l : List V} (h : GsC p bh l) (hb : bh = [] ∨ ∃ y, bh = [.int y]) (hd : deedB l = true) : ∃ d : De, d.ok ∧ d.reached p ∧ l = d.vals := by
  have nl : ∀ {z : Str} {r : List V} {ks : List Str}, PT.lookup z = some ks → r.length ≠ ks.length → deedB (.str z :: r) = true → False := fun e n t => by
    rw [deed_len e n] at t
    cases t
  cases h with
  | deed d ok hg =>
    refine ⟨d, ok, ?_, rfl⟩
    cases d with
    | jump k g f => cases hg
    | call g f => cases hg
    | _ => exact True.intro
  | num s => cases hd
  | jn k g hk hn =>
    rw [jump3] at hd
    simp only [Bool.and_eq_true] at hd
    obtain ⟨i, e, h1, h2⟩ := numB_iff hd.2.1
    cases e
    exact ⟨.jump k g false, ⟨hk, h1, h2⟩, hn, rfl⟩
  | jn7 g => exact (nl look_jump (by simp) hd).elim
  | jf k hk =>
    rcases hb with rfl | ⟨y, rfl⟩
    · exact (nl look_jump (by simp) hd).elim
    · have hd : deedB [.str "jump", .str (nm TM k), .int y, .bl true] = true := hd
      rw [jump3] at hd
      simp only [Bool.and_eq_true] at hd
      obtain ⟨i, e, h1, h2⟩ := numB_iff hd.2.1
      cases e
      exact ⟨.jump k y true, ⟨hk, h1, h2⟩, True.intro, rfl⟩
  | jf7 =>
    rcases hb with rfl | ⟨y, rfl⟩
    · exact (nl look_jump (by simp) hd).elim
    · exact (nl look_jump (by simp) hd).elim
  | cn g hn =>
    rw [call2] at hd
    simp only [Bool.and_eq_true] at hd
    obtain ⟨i, e, h1, h2⟩ := numB_iff hd.1
    cases e
    exact ⟨.call g false, ⟨h1, h2⟩, hn, rfl⟩
  | cf =>
    rcases hb with rfl | ⟨y, rfl⟩
    · exact (nl look_call (by simp) hd).elim
    · have hd : deedB [.str "call", .int y, .bl true] = true := hd
      rw [call2] at hd
      simp only [Bool.and_eq_true] at hd
      obtain ⟨i, e, h1, h2⟩ := numB_iff hd.1
      cases e
      exact ⟨.call y true, ⟨h1, h2⟩, True.intro, rfl⟩
  | nil => cases hd
end Bm
set_option maxHeartbeats 1600000
namespace Bm
open PySem PySem.Spec PyProof.Rows L2
def behind (ws : List Int) (p : Nat) : List V := ((vInts ws).drop (p + 1)).take 1
theorem behind_at {ws : List Int} {p : Nat} {y : Int} (h : ws[p + 1]? = some y) : behind ws p = [.int y] := by
  obtain ⟨hl, e⟩ := List.getElem?_eq_some_iff.mp h
  unfold behind vInts
  rw [← List.map_drop, List.drop_eq_getElem_cons hl, e]
  rfl
theorem behind_is (ws : List Int) (p : Nat) : behind ws p = [] ∨ ∃ y, behind ws p = [.int y] := by
  cases h : ws[p + 1]? with
  | some y => exact .inr ⟨y, behind_at h⟩
  | none =>
    refine .inl ?_
    have := List.getElem?_eq_none_iff.mp h
    unfold behind vInts
    rw [← List.map_drop, List.drop_of_length_le this]
    rfl
theorem gs_at {ws : List Int} {p : Nat} {d : De} {x : Int} (h : IsAt ws p d) (hx : ws[p]? = some x) : gs x (p : Int) (behind ws p) = d.vals := by
  have hw := at_words h hx
  obtain ⟨ok, re, _⟩ := h
  have single : ∀ {w : Int}, d.words p = [w] → x = w := fun {w} e => by
    rcases hw with ⟨y, e2, _⟩ | e2
    · rw [e] at e2; cases e2
    · rw [e] at e2
      exact ((List.cons.inj e2).1).symm
  have double : ∀ {w g : Int}, d.words p = [w, g] → x = w ∧ behind ws p = [.int g] := fun {w g} e => by
    rcases hw with ⟨y, e2, e3⟩ | e2
    · rw [e] at e2
      obtain ⟨h1, h2⟩ := List.cons.inj e2
      have h2 := (List.cons.inj h2).1
      exact ⟨h1.symm, by rw [behind_at e3, h2]⟩
    · rw [e] at e2; cases e2
  have ff : ∀ {y : Int} {k : Nat}, y = (k : Int) → y.toNat = k := fun e => by rw [e]; exact Int.toNat_natCast _
  cases d with
  | sgl k =>
    have hk : k < 3 := ok
    have e : x = (k : Int) * 512 := single rfl
    unfold gs
    rw [if_pos (by omega), ff (k := k) (by omega), sg_one k (by omega), if_neg (by omega)]
    rfl
  | reg k a =>
    obtain ⟨k3, k7, ha⟩ := ok
    have ha : 0 ≤ a ∧ a ≤ 7 := ha
    have e : x = (k : Int) * 512 + a * 64 := single rfl
    unfold gs
    rw [if_pos (by omega), ff (k := k) (by omega), sg_one k (by omega), if_pos (by omega), show x / 64 % 8 = a by omega]
    rfl
  | sum k d a b =>
    obtain ⟨hk, hd, ha, hb⟩ := ok
    have hd : 0 ≤ d ∧ d ≤ 7 := hd
    have ha : 0 ≤ a ∧ a ≤ 7 := ha
    have hb : 0 ≤ b ∧ b ≤ 7 := hb
    have e : x = 4096 + d * 512 + a * 64 + b * 8 + (k : Int) := single rfl
    unfold gs
    rw [if_neg (by omega), if_pos (by omega), ff (k := k) (by omega), show x / 512 % 8 = d by omega, show x / 64 % 8 = a by omega, show x / 8 % 8 = b by omega]
    rfl
  | plus d a n =>
    obtain ⟨hd, ha, hn⟩ := ok
    have hd : 0 ≤ d ∧ d ≤ 7 := hd
    have ha : 0 ≤ a ∧ a ≤ 7 := ha
    have e : x = 8192 + d * 512 + a * 64 + n % 64 := single rfl
    have en : sgn (x % 64) 32 = n := by
      unfold sgn
      split <;> omega
    unfold gs
    rw [if_neg (by omega), if_neg (by omega), if_pos (by omega), show x / 512 % 8 = d by omega, show x / 64 % 8 = a by omega, en]
    rfl
  | set d n =>
    obtain ⟨hd, hn⟩ := ok
    have hd : 0 ≤ d ∧ d ≤ 7 := hd
    have e : x = 12288 + d * 512 + n := single rfl
    unfold gs
    rw [if_neg (by omega), if_neg (by omega), if_neg (by omega), if_pos (by omega), show x / 512 % 8 = d by omega, show x % 512 = n by omega]
    rfl
  | high d n =>
    obtain ⟨hd, hn⟩ := ok
    have hd : 0 ≤ d ∧ d ≤ 7 := hd
    have e : x = 16384 + d * 512 + n := single rfl
    unfold gs
    rw [if_neg (by omega), if_neg (by omega), if_neg (by omega), if_neg (by omega), if_pos (by omega), show x / 512 % 8 = d by omega, show x % 128 = n by omega]
    rfl
  | load d a n =>
    obtain ⟨hd, ha, hn⟩ := ok
    have hd : 0 ≤ d ∧ d ≤ 7 := hd
    have ha : 0 ≤ a ∧ a ≤ 7 := ha
    have e : x = 20480 + d * 512 + a * 64 + n := single rfl
    unfold gs
    rw [if_neg (by omega), if_neg (by omega), if_neg (by omega), if_neg (by omega), if_neg (by omega), if_pos (by omega), show x / 512 % 8 = d by omega, show x / 64 % 8 = a by omega, show x % 64 = n by omega]
    rfl
  | store d a n =>
    obtain ⟨hd, ha, hn⟩ := ok
    have hd : 0 ≤ d ∧ d ≤ 7 := hd
    have ha : 0 ≤ a ∧ a ≤ 7 := ha
    have e : x = 24576 + d * 512 + a * 64 + n := single rfl
    unfold gs
    rw [if_neg (by omega), if_neg (by omega), if_neg (by omega), if_neg (by omega), if_neg (by omega), if_neg (by omega), if_pos (by omega), show x / 512 % 8 = d by omega, show x / 64 % 8 = a by omega, show x % 64 = n by omega]
    rfl
  | jump k g f =>
    obtain ⟨hk, hg⟩ := ok
    cases f with
    | true =>
      obtain ⟨e, eb⟩ := double (w := 32768 + (k : Int) * 512) (g := g) rfl
      unfold gs gsGoing
      rw [if_neg (by omega), if_neg (by omega), if_neg (by omega), if_neg (by omega), if_neg (by omega), if_neg (by omega), if_neg (by omega), if_neg (by omega), if_pos (by omega), ff (k := k) (by omega), tm_one k hk, eb]
      rfl
    | false =>
      have re : near g p := re
      unfold near at re
      have e : x = 28672 + (k : Int) * 512 + (g - p - 1) % 32 := single rfl
      have en : (p : Int) + 1 + sgn (x % 32) 16 = g := by
        unfold sgn
        split <;> omega
      unfold gs gsGoing
      rw [if_neg (by omega), if_neg (by omega), if_neg (by omega), if_neg (by omega), if_neg (by omega), if_neg (by omega), if_neg (by omega), if_pos (by omega), ff (k := k) (by omega), tm_one k hk, en]
      rfl
  | call g f =>
    have hg : 0 ≤ g ∧ g ≤ 65535 := ok
    cases f with
    | true =>
      obtain ⟨e, eb⟩ := double (w := 40960) (g := g) rfl
      unfold gs gsGoing
      rw [if_neg (by omega), if_neg (by omega), if_neg (by omega), if_neg (by omega), if_neg (by omega), if_neg (by omega), if_neg (by omega), if_neg (by omega), if_neg (by omega), if_neg (by omega), if_pos (by omega), eb]
      rfl
    | false =>
      have re : near g p := re
      unfold near at re
      have e : x = 36864 + (g - p - 1) % 32 := single rfl
      have en : (p : Int) + 1 + sgn (x % 32) 16 = g := by
        unfold sgn
        split <;> omega
      unfold gs gsGoing
      rw [if_neg (by omega), if_neg (by omega), if_neg (by omega), if_neg (by omega), if_neg (by omega), if_neg (by omega), if_neg (by omega), if_neg (by omega), if_neg (by omega), if_pos (by omega), en]
      rfl
theorem cut_span {xs : List V} {k n : Nat} : cutV xs (some (k : Int)) (some ((k : Int) + (n : Int))) = (xs.drop k).take n := by
  have e : ((k : Int) + (n : Int)) = ((k + n : Nat) : Int) := by omega
  unfold cutV
  rw [e, HT.sIx_nat, HT.sIx_nat]
  by_cases h : k + n ≤ xs.length
  · rw [Nat.min_eq_left (show k ≤ xs.length by omega), Nat.min_eq_left h]
    congr 1
    omega
  · rw [Nat.min_eq_right (Nat.le_of_lt (Nat.lt_of_not_le h))]
    by_cases h2 : k ≤ xs.length
    · rw [Nat.min_eq_left h2, List.take_of_length_le (by rw [List.length_drop]; omega), List.take_of_length_le (by rw [List.length_drop]; omega)]
    · rw [Nat.min_eq_right (by omega), List.drop_of_length_le (Nat.le_refl _), List.drop_of_length_le (Nat.le_of_lt (Nat.lt_of_not_le h2))]
      simp
theorem ints_lay : ∀ l : List Int, PyData.canLayAll0 (l.map PyData.int) = true ∧ PyData.depthAll (l.map PyData.int) = 0
  | [] => by simp [PyData.canLayAll0, PyData.depthAll]
  | x :: l => by
    obtain ⟨h1, h2⟩ := ints_lay l
    simp [PyData.canLayAll0, PyData.depthAll, PyData.canLay0, PyData.depth, h1, h2]
theorem ints_shaped (l : List Int) : SeqAt.shaped (.tuple (l.map PyData.int)) = true := by
  obtain ⟨h1, h2⟩ := ints_lay l
  unfold SeqAt.shaped
  simp only [PyData.canLay0, PyData.depth, h1, h2, Bool.true_and]
  decide
theorem ints_eqv : ∀ a b : List Int, PyData.eqvAll (a.map PyData.int) (b.map PyData.int) = decide (a = b)
  | [], [] => by simp [PyData.eqvAll]
  | [], _ :: _ => by simp [PyData.eqvAll]
  | _ :: _, [] => by simp [PyData.eqvAll]
  | x :: a, y :: b => by
    simp only [List.map_cons, PyData.eqvAll, PyData.eqv, ints_eqv a b]
    by_cases h : x = y
    · subst h
      simp
    · simp [h]
theorem dp_ints {K : PySem.W.Frag} {H : Hp} : ∀ l : List Int, DpAll K H (vInts l) (l.map PyData.int)
  | [] => .nil
  | x :: l => .cons (.int x) (dp_ints l)
section
variable {P : Program} {w : World} {K : PySem.W.Frag} {mg : Str → Option Value} {base : Heap} {f : Addr} {fd : FuncData} {dvs : List V} {odd : List Str}
abbrev KnGs (P : Program) (w : World) (K : PySem.W.Frag) (mg : Str → Option Value) (base : Heap) : Prop := Kn P w K mg base CX0 2 "guessed" ["words", "place"] [] (spGuess K)
def spAt (K : PySem.W.Frag) : Sp := fun vs H Q _ => ∃ (t : Addr) (ws : List Int) (p : Nat) (x : Int), vs = [.ref t, .int (p : Nat)] ∧ SqT K H t (vInts ws) ∧ ws[p]? = some x ∧ 0 ≤ x ∧ x < 65536 ∧
  (∀ d r pd H', IsAt ws p d → Same H H' → SqT K H' pd d.vals → SqT K H' r [.ref pd, .int ((d.words p).length : Nat)] → Q (.ref r) H') ∧ ((∀ d, ¬ IsAt ws p d) → ∀ H', Same H H' → Q .non H')
end
end Bm
set_option maxHeartbeats 800000
namespace Bm
open PySem PySem.Spec PyProof.Rows L2
theorem at_lt {ws : List Int} {p : Nat} {d : De} (h : IsAt ws p d) : p < ws.length ∧ p + (d.words p).length ≤ ws.length ∧ 1 ≤ (d.words p).length := by
  obtain ⟨_, _, h⟩ := h
  have h1 : 1 ≤ (d.words p).length := by
    cases d with
    | jump k g f => cases f <;> exact Nat.succ_pos _
    | call g f => cases f <;> exact Nat.succ_pos _
    | _ => exact Nat.succ_pos _
  have h2 := congrArg List.length h
  rw [List.length_take, List.length_drop] at h2
  omega
theorem at_uniq {ws : List Int} {p : Nat} {d e : De} (h : IsAt ws p d) (g : IsAt ws p e) : d = e := by
  have hx := List.getElem?_eq_getElem (at_lt h).1
  exact vals_inj h.1 g.1 ((gs_at h hx).symm.trans (gs_at g hx))
open Classical in
/-- the deed at a place, if there is one -/
noncomputable def atD (ws : List Int) (p : Nat) : Option De := if h : ∃ d, IsAt ws p d then some h.choose else none
theorem atD_some {ws : List Int} {p : Nat} {d : De} (h : IsAt ws p d) : atD ws p = some d := by
  unfold atD
  rw [dif_pos ⟨d, h⟩]
  exact congrArg some (at_uniq (Exists.choose_spec (⟨d, h⟩ : ∃ d, IsAt ws p d)) h)
theorem atD_none {ws : List Int} {p : Nat} (h : ∀ d, ¬ IsAt ws p d) : atD ws p = none := by
  unfold atD
  exact dif_neg fun ⟨d, z⟩ => h d z
theorem atD_is {ws : List Int} {p : Nat} {d : De} (h : atD ws p = some d) : IsAt ws p d := by
  unfold atD at h
  split at h
  · rename_i z
    rw [← Option.some.inj h]
    exact z.choose_spec
  · cases h
def sizeO (p : Nat) : Option De → Nat
  | none => 1
  | some d => (d.words p).length
theorem sizeO_fit {ws : List Int} {p : Nat} (h : p < ws.length) : 1 ≤ sizeO p (atD ws p) ∧ p + sizeO p (atD ws p) ≤ ws.length := by
  cases e : atD ws p with
  | none => exact ⟨Nat.le_refl _, h⟩
  | some d =>
    have := at_lt (atD_is e)
    exact ⟨this.2.2, this.2.1⟩
/-- a deed, or none, as a value -/
def VD (K : PySem.W.Frag) (H : Hp) (v : V) : Option De → Prop
  | none => v = .non
  | some d => ∃ pd, v = .ref pd ∧ SqT K H pd d.vals
theorem VD.map {K : PySem.W.Frag} {H H' : Hp} {v : V} {o : Option De} (f : ∀ a xs, SqT K H a xs → SqT K H' a xs) (h : VD K H v o) : VD K H' v o := by
  cases o with
  | none => exact h
  | some d =>
    obtain ⟨pd, e, h⟩ := h
    exact ⟨pd, e, f _ _ h⟩
theorem tup_put2 {K : PySem.W.Frag} {H : Hp} {D a : Addr} {rs xs : List V} {o : HO} (hD : H D = some (.lst rs)) (h : SqT K H a xs) : SqT K (upd H D o) a xs := by
  have n : ∀ {u}, H a = some u → (∀ l, u ≠ .lst l) → a ≠ D := fun e q z => by
    rw [z, hD] at e
    exact q _ (Option.some.inj e).symm
  rcases h with (h | ⟨u, h⟩) | h
  · exact .inl (.inl (by rw [upd_ne (n h (fun l z => by cases z))]; exact h))
  · exact .inl (.inr ⟨u, by rw [upd_ne (n h (fun l z => by cases z))]; exact h⟩)
  · exact .inr h
theorem line_lt' {n : Nat} (h : n < 100000) : n < sizeLine := Nat.lt_of_lt_of_le h (by decide)
abbrev KnAt (P : Program) (w : World) (K : PySem.W.Frag) (mg : Str → Option Value) (base : Heap) : Prop := Kn P w K mg base CX0 4 "deed_at" ["words", "place"] [] (spAt K)
def wsOk (ws : List Int) : Prop := ∀ x ∈ ws, 0 ≤ x ∧ x < 65536
end Bm
/-! made shorter, and lean: it stops the same -/
namespace Bm
open PySem
theorem zip_at : ∀ (l : List Ld) (ks : List Bool) (k : Nat) (x : Ld), ks.length = l.length → l[k]? = some x → ks[k]? = some true → ((l.zip ks).filter (·.2))[tru (ks.take k)]? = some (x, true)
  | [], _, k, x, _, h, _ => by simp at h
  | y :: l, [], k, x, e, _, _ => by simp at e
  | y :: l, b :: ks, 0, x, _, h, hb => by
    have h : some y = some x := h
    have hb : some b = some true := hb
    rw [Option.some.inj h, Option.some.inj hb]
    rfl
  | y :: l, b :: ks, k + 1, x, e, h, hb => by
    have ih := zip_at l ks k x (by simpa using e) (by simpa using h) (by simpa using hb)
    rw [List.zip_cons_cons, List.filter_cons, List.take_succ_cons]
    unfold tru at ih ⊢
    rw [List.countP_cons]
    cases b
    · simpa using ih
    · simpa using ih
theorem short_at {ls : List Ld} {k : Nat} {x : Ld} (h : ls[k]? = some x) (hk : keepL ls k x = true) : (shortL ls)[behL ls k]? = some (movedL (behL ls) x) := by
  unfold shortL behL
  rw [List.getElem?_map, zip_at ls (keeps ls) k x (keeps_len ls) h (by rw [keeps_at, h]; exact congrArg some hk)]
  rfl
theorem behS_next {ls : List Ld} {k : Nat} {x : Ld} (h : ls[k]? = some x) : behL ls (k + 1) = behL ls k + if keepL ls k x = true then 1 else 0 := by
  unfold behL
  have e : (keeps ls)[k]? = some (keepL ls k x) := by rw [keeps_at, h]; rfl
  have e2 : (keeps ls).take (k + 1) = (keeps ls).take k ++ [keepL ls k x] := by
    rw [List.take_add_one, e]
    rfl
  rw [e2]
  unfold tru
  rw [List.countP_append, List.countP_cons, List.countP_nil]
  simp
def AtL (ls : List Ld) (g : Nat) : Prop := g ≤ ls.length ∧ (g < ls.length → RchL ls g)
def ShR (ls : List Ld) (m m2 : MS) : Prop := m2 = relab (behL ls) m m2.n ∧ AtL ls m.g ∧ ∀ i ∈ m.k, AtL ls i.toNat
theorem last_mem {l : List Int} (h : l.length ≠ 0) : l.getLastD 0 ∈ l := by
  have : l ≠ [] := fun e => h (by rw [e]; rfl)
  rw [List.getLastD_eq_getLast?, List.getLast?_eq_some_getLast this]
  exact List.getLast_mem this
/-- where a deed leads -/
theorem act_at {ls : List Ld} (ok : OkL ls) {gs : List Int} {m : MS} {x : Ld} (hx : ls[m.g]? = some x) (hh : x.1.hin gs m = "") (h1 : AtL ls m.g) (h2 : ∀ i ∈ m.k, AtL ls i.toNat) :
    AtL ls ((dL x).act gs (m.past 1)).g ∧ ∀ i ∈ ((dL x).act gs (m.past 1)).k, AtL ls i.toNat := by
  have hl := (List.getElem?_eq_some_iff.mp hx).1
  have hr := h1.2 hl
  have next : haltsL x = false → ajL x = false → AtL ls (m.g + 1) := fun a b => ⟨hl, fun c => RchL.step hr hx (by unfold nextL; rw [a, b]; simp) c⟩
  have goal : x.1.goes = true → AtL ls x.2 := fun a => ⟨ok x (List.mem_of_getElem? hx) a, fun c => RchL.step hr hx (by unfold nextL goL; rw [if_pos a]; simp) c⟩
  obtain ⟨d, t⟩ := x
  cases d with
  | sgl k =>
    show AtL ls ((De.sgl k).act gs (m.past 1)).g ∧ _
    have hh : (De.sgl k).hin gs m = "" := hh
    dsimp only [De.hin] at hh
    have k0 : k ≠ 0 := fun z => by rw [if_pos z] at hh; exact str_ne.1 hh
    rw [if_neg k0] at hh
    show AtL ls ((De.sgl k).act gs (m.past 1)).g ∧ ∀ i ∈ ((De.sgl k).act gs (m.past 1)).k, AtL ls i.toNat
    dsimp only [De.act]
    by_cases c : k = 2
    · rw [if_pos c] at hh
      have hk : m.k.length ≠ 0 := fun z => by rw [if_pos z] at hh; exact str_ne.2.1 hh
      rw [if_pos c]
      exact ⟨h2 _ (last_mem hk), fun i hi => h2 i ((List.dropLast_sublist _).subset hi)⟩
    · rw [if_neg c]
      refine ⟨next ?_ rfl, h2⟩
      unfold haltsL
      split
      · rename_i z; exact absurd (De.sgl.inj z) k0
      · rename_i z; exact absurd (De.sgl.inj z) c
      · rfl
  | reg k a =>
    have n := next rfl rfl
    show AtL ls ((De.reg k a).act gs (m.past 1)).g ∧ ∀ i ∈ ((De.reg k a).act gs (m.past 1)).k, AtL ls i.toNat
    dsimp only [De.act]
    by_cases c3 : k = 3
    · rw [if_pos c3]; exact ⟨n, h2⟩
    · rw [if_neg c3]
      by_cases c4 : k = 4
      · rw [if_pos c4]; exact ⟨n, h2⟩
      · rw [if_neg c4]
        by_cases c5 : k = 5
        · rw [if_pos c5]; exact ⟨n, h2⟩
        · rw [if_neg c5]; exact ⟨n, h2⟩
  | jump k g f =>
    show AtL ls ((De.jump k (t : Nat) false).act gs (m.past 1)).g ∧ ∀ i ∈ ((De.jump k (t : Nat) false).act gs (m.past 1)).k, AtL ls i.toNat
    dsimp only [De.act]
    by_cases c : (m.past 1).tm k = true
    · rw [if_pos c]
      exact ⟨goal rfl, h2⟩
    · rw [if_neg c]
      refine ⟨next rfl ?_, h2⟩
      unfold ajL
      split
      · rename_i z
        have : k = 0 := (De.jump.inj z).1
        rw [this] at c
        exact absurd rfl c
      · rfl
  | call g f =>
    refine ⟨goal rfl, fun i hi => ?_⟩
    have hi : i ∈ m.k ++ [((m.g + 1 : Nat) : Int)] := hi
    rcases List.mem_append.mp hi with q | q
    · exact h2 i q
    · rw [List.mem_singleton.mp q]
      exact next rfl rfl
  | sum k d a b => exact ⟨next rfl rfl, h2⟩
  | plus d a n => exact ⟨next rfl rfl, h2⟩
  | set d n => exact ⟨next rfl rfl, h2⟩
  | high d n => exact ⟨next rfl rfl, h2⟩
  | load d a n => exact ⟨next rfl rfl, h2⟩
  | store d a n => exact ⟨next rfl rfl, h2⟩
/-- an idle one does nothing -/
theorem idle_act {gs : List Int} {m : MS} {x : Ld} (h : idleL m.g x = true) : x.1.hin gs m = "" ∧ (dL x).act gs (m.past 1) = m.past 1 := by
  unfold idleL at h
  obtain ⟨d, t⟩ := x
  cases d with
  | sgl k =>
    have hk : k = 1 := by
      split at h
      · rename_i z; exact De.sgl.inj z
      · rename_i z; cases z
      · cases h
    subst hk
    exact ⟨rfl, rfl⟩
  | jump k g f =>
    have ht : t = m.g + 1 := of_decide_eq_true h
    refine ⟨rfl, ?_⟩
    show (De.jump k (t : Nat) false).act gs (m.past 1) = m.past 1
    dsimp only [De.act]
    by_cases c : (m.past 1).tm k = true
    · rw [if_pos c, ht]
      rfl
    · rw [if_neg c]
  | _ => cases h
open Classical in
theorem short_stops {ls : List Ld} (ok : OkL ls) {gs : List Int} {c : Nat} {m m2 : MS} {why : Str} {s : List Int} (r : ShR ls m m2) (h : Stops (hindL ls gs) (nxtL ls gs) c m why s) : ∃ c2, c2 ≤ c ∧ Stops (hindL (shortL ls) gs) (nxtL (shortL ls) gs) c2 m2 why s := by
  refine Stops.less (ShR ls) (fun m m2 r hh => ?_) (fun m m2 r hh => ?_) r h
  · obtain ⟨e, a1, a2⟩ := r
    refine ⟨?_, by rw [e]; rfl⟩
    have eg : m2.g = behL ls m.g := by rw [e]; rfl
    cases c : ls[m.g]? with
    | none =>
      have hl : m.g = ls.length := Nat.le_antisymm a1.1 (List.getElem?_eq_none_iff.mp c)
      have e2 : (shortL ls)[m2.g]? = none := by
        rw [eg, hl]
        unfold behL
        rw [List.take_of_length_le (by rw [keeps_len]; exact Nat.le_refl _)]
        exact List.getElem?_eq_none (by rw [short_len]; exact Nat.le_refl _)
      unfold hindL
      rw [c, e2]
    | some x =>
      have hl := (List.getElem?_eq_some_iff.mp c).1
      rw [hindL_at c] at hh ⊢
      have ni : idleL m.g x = false := by
        cases z : idleL m.g x with
        | false => rfl
        | true => exact absurd (idle_act z).1 hh
      have hk : keepL ls m.g x = true := by
        unfold keepL
        rw [ni, decide_eq_true (a1.2 hl)]
        rfl
      have e2 := short_at c hk
      rw [← eg] at e2
      rw [hindL_at e2]
      have e3 : (movedL (behL ls) x).1 = x.1 := by unfold movedL; split <;> rfl
      rw [e3, e, hin_relab]
  · obtain ⟨e, a1, a2⟩ := r
    have eg : m2.g = behL ls m.g := by rw [e]; rfl
    cases c : ls[m.g]? with
    | none =>
      unfold hindL at hh
      rw [c] at hh
      exact absurd hh beyond_ne
    | some x =>
      have hl := (List.getElem?_eq_some_iff.mp c).1
      rw [hindL_at c] at hh
      have at_ := act_at ok c hh a1 a2
      rw [nxtL_at c]
      have bn := behS_next c
      cases z : idleL m.g x with
      | true =>
        have ia := (idle_act (gs := gs) z).2
        rw [ia] at at_ ⊢
        refine .inl ⟨?_, at_⟩
        have hk : keepL ls m.g x = false := by unfold keepL; rw [z]; simp
        rw [hk] at bn
        have bn : behL ls (m.g + 1) = behL ls m.g := bn
        refine e.trans ?_
        show ({ m with g := behL ls m.g, k := reK (behL ls) m.k, n := m2.n } : MS) = { m with g := behL ls (m.g + 1), k := reK (behL ls) m.k, n := m2.n }
        rw [bn]
      | false =>
        have hk : keepL ls m.g x = true := by
          unfold keepL
          rw [z, decide_eq_true (a1.2 hl)]
          rfl
        rw [if_pos hk] at bn
        have e2 := short_at c hk
        rw [← eg] at e2
        have e3 : (movedL (behL ls) x).1 = x.1 := by unfold movedL; split <;> rfl
        have e4 : dL (movedL (behL ls) x) = putD x.1 (behL ls x.2 : Nat) false := by
          unfold dL
          rw [e3]
          obtain ⟨d, t⟩ := x
          cases d <;> rfl
        have e5 : nxtL (shortL ls) gs m2 = relab (behL ls) ((dL x).act gs (m.past 1)) (m2.n + 1) := by
          rw [nxtL_at e2, e4]
          conv => lhs; rw [e]
          exact act_relab bn hh
        refine .inr ⟨?_, ?_, at_⟩
        · rw [hindL_at e2, e3, e, hin_relab]
          exact hh
        · rw [e5]
          rfl
theorem new_at {ls : List Ld} : AtL ls MS.new.g ∧ ∀ i ∈ MS.new.k, AtL ls i.toNat := ⟨⟨Nat.zero_le _, fun h => .zero h⟩, fun i hi => by cases hi⟩
theorem new_relab (f : Nat → Nat) (h : f 0 = 0) : MS.new = relab f MS.new 0 := by
  show MS.new = { MS.new with g := f 0, k := reK f [], n := 0 }
  rw [h]
  rfl
/-- a list at work, from the start -/
def StopsL (ls : List Ld) (gs : List Int) (c : Nat) (why : Str) (s : List Int) : Prop := Stops (hindL ls gs) (nxtL ls gs) c MS.new why s
theorem step_stops {ls : List Ld} (ok : OkL ls) {gs : List Int} {c : Nat} {why : Str} {s : List Int} (h : StopsL ls gs c why s) : ∃ c2, c2 ≤ c ∧ StopsL (stepL ls) gs c2 why s := by
  obtain ⟨c1, l1, h1⟩ := led_stops (m2 := MS.new) (.inr ⟨0, fun i hi => absurd hi (Nat.not_lt_zero _), rfl⟩) h
  obtain ⟨c2, l2, h2⟩ := short_stops (led_ok ok) (m2 := MS.new) ⟨new_relab _ rfl, new_at⟩ h1
  exact ⟨c2, by omega, h2⟩
theorem lean_stops {ls : List Ld} (ok : OkL ls) {gs : List Int} {c : Nat} {why : Str} {s : List Int} (h : StopsL ls gs c why s) : ∃ c2, c2 ≤ c ∧ StopsL (leanL ls) gs c2 why s := by
  unfold leanL
  generalize 2 * ls.length + 2 = n
  induction n with
  | zero => exact ⟨c, Nat.le_refl _, h⟩
  | succ n ih =>
    obtain ⟨c1, l1, h1⟩ := ih
    obtain ⟨c2, l2, h2⟩ := step_stops (leanN_ok ok n) h1
    exact ⟨c2, by omega, h2⟩
end Bm
set_option maxHeartbeats 800000
namespace Bm
open PySem PySem.Spec PyProof.Rows L2
def loose : HO → Prop
  | .tup _ => False
  | .frz _ _ => False
  | _ => True
theorem SqT.put {K : PySem.W.Frag} {H : Hp} {q a : Addr} {xs : List V} {u o : HO} (hq : H q = some u) (hu : loose u) (h : SqT K H a xs) : SqT K (upd H q o) a xs := by
  have n : ∀ {w}, H a = some w → ¬ loose w → a ≠ q := fun e f z => by
    rw [z, hq] at e
    rw [← Option.some.inj e] at f
    exact f hu
  rcases h with (h | ⟨w, h⟩) | h
  · exact .inl (.inl (by rw [upd_ne (n h (fun z => z))]; exact h))
  · exact .inl (.inr ⟨w, by rw [upd_ne (n h (fun z => z))]; exact h⟩)
  · exact .inr h
theorem sm_lit : nm SM 0 = "add" ∧ nm SM 1 = "less" ∧ nm SM 2 = "and" ∧ nm SM 3 = "or" ∧ nm SM 4 = "xor" ∧ nm SM 5 = "left" ∧ nm SM 6 = "right" ∧ nm SM 7 = "turn" := ⟨rfl, rfl, rfl, rfl, rfl, rfl, rfl, rfl⟩
theorem oft_and (b : Int) : Builtin.bitAnd b 15 = ((oft b : Nat) : Int) := by
  rw [bitAnd_m4]
  unfold oft
  omega
theorem at_rg {m : MS} {gs : List Int} (h : m.Ok gs) {i : Int} (hi : r3 i) : atI (vInts m.r) i = some (.int (m.rg i)) := by
  obtain ⟨n, rfl⟩ := Int.eq_ofNat_of_zero_le hi.1
  have hi : 0 ≤ (n : Int) ∧ (n : Int) ≤ 7 := hi
  have h8 := h.r8
  refine atI_nat ?_
  unfold vInts MS.rg
  rw [List.getElem?_map, List.getD_eq_getElem?_getD, Int.toNat_natCast, List.getElem?_eq_getElem (by omega)]
  rfl
theorem at_cell {m : MS} {gs : List Int} (h : m.Ok gs) {i : Int} (h0 : 0 ≤ i) (h1 : i < 64) : atI (vInts m.c) i = some (.int (m.c.getD i.toNat 0)) := by
  obtain ⟨n, rfl⟩ := Int.eq_ofNat_of_zero_le h0
  have h8 := h.c64
  refine atI_nat ?_
  unfold vInts
  rw [List.getElem?_map, List.getD_eq_getElem?_getD, Int.toNat_natCast, List.getElem?_eq_getElem (by omega)]
  rfl
theorem neg_one {l : List Int} (h : l.length ≠ 0) : atI (vInts l) (-1) = some (.int (l.getLastD 0)) := by
  have e : vInts l = vInts l.dropLast ++ [.int (l.getLastD 0)] := by
    have hl : l ≠ [] := fun z => h (by rw [z]; rfl)
    have e2 := List.dropLast_concat_getLast hl
    have e3 : l.getLastD 0 = l.getLast hl := by rw [List.getLastD_eq_getLast?, List.getLast?_eq_some_getLast hl]; rfl
    rw [e3]
    unfold vInts
    rw [← List.map_singleton, ← List.map_append, e2]
  rw [e]
  exact atI_last _ _
theorem hin_ask {gs : List Int} {m : MS} {a : Int} (h : (De.reg 4 a).hin gs m = "") (ok : m.Ok gs) : m.a < gs.length := by
  dsimp only [De.hin] at h
  rw [if_pos rfl] at h
  by_cases c : m.a = gs.length
  · rw [if_pos c] at h
    exact absurd h str_ne.2.2.1
  · have := ok.ga
    omega
theorem hin_pop {gs : List Int} {m : MS} {a : Int} (h : (De.reg 6 a).hin gs m = "") : m.p.length ≠ 0 := fun c => by
  dsimp only [De.hin] at h
  rw [if_neg (by decide), if_neg (by decide), if_pos rfl, if_pos c] at h
  exact str_ne.2.1 h
theorem hin_back {gs : List Int} {m : MS} (h : (De.sgl 2).hin gs m = "") : m.k.length ≠ 0 := fun c => by
  dsimp only [De.hin] at h
  rw [if_neg (by decide), if_pos rfl, if_pos c] at h
  exact str_ne.2.1 h
theorem high_or {n x : Int} (hn : 0 ≤ n) (hx : 0 ≤ x) : Builtin.bitOr (n * 2 ^ 9) (Builtin.bitAnd x 511) = n * 512 + x % 512 := by
  have e : Builtin.bitAnd x 511 = x % 512 := Bits.bitAnd_mask 9 hx
  rw [e]
  exact or_side 9 hn (by omega) (by omega)
theorem ints_one (l : List Int) (x : Int) : vInts l ++ [V.int x] = vInts (l ++ [x]) := by
  unfold vInts
  rw [List.map_append]
  rfl
theorem ints_len (l : List Int) : (vInts l).length = l.length := List.length_map ..
theorem hin_past (d : De) (gs : List Int) (m : MS) (sz : Nat) : d.hin gs (m.past sz) = d.hin gs m := by
  cases d <;> rfl
theorem or3N {x a b c : Str} {H : Hp} (h1 : x ≠ a) (h2 : x ≠ b) (h3 : x ≠ c) : PEv (tPor (tPfirst (tPv (.str a)) (tPfirst (tPv (.str b)) (tPfirst (tPv (.str c)) fun _ H k => k none H)))) (.str x) H none :=
  pev_orN (pev_next (pev_str h1) (pev_next (pev_str h2) (pev_next (pev_str h3) fun k q => q)))
theorem or3Y {x a b c : Str} {H : Hp} (h : x = a ∨ x = b ∨ x = c) (h1 : a ≠ b ∧ a ≠ c ∧ b ≠ c) : PEv (tPor (tPfirst (tPv (.str a)) (tPfirst (tPv (.str b)) (tPfirst (tPv (.str c)) fun _ H k => k none H)))) (.str x) H (some []) := by
  have fst : ∀ {t : TPt} {t2 : TPt}, PEv t (.str x) H (some []) → PEv (tPfirst t t2) (.str x) H (some []) := fun h k q => h _ q
  rcases h with rfl | rfl | rfl
  · exact pev_or (fst (pev_yes rfl))
  · exact pev_or (pev_next (pev_str h1.1.symm) (fst (pev_yes rfl)))
  · exact pev_or (pev_next (pev_str h1.2.1.symm) (pev_next (pev_str h1.2.2.symm) (fst (pev_yes rfl))))
noncomputable def nxt (ws gs : List Int) (m : MS) : MS := match atD ws m.g with
  | none => m
  | some d => d.act gs (m.past (d.words m.g).length)
noncomputable def hind (ws gs : List Int) (m : MS) : Str := if ws.length ≤ m.g then "beyond" else match atD ws m.g with
  | none => "none"
  | some d => d.hin gs m
theorem nxt_some {ws gs : List Int} {m : MS} {d : De} (h : atD ws m.g = some d) : nxt ws gs m = d.act gs (m.past (d.words m.g).length) := by
  unfold nxt
  rw [h]
theorem hind_nil {ws gs : List Int} {m : MS} (h : hind ws gs m = "") : ∃ d, atD ws m.g = some d ∧ d.hin gs m = "" ∧ m.g < ws.length := by
  unfold hind at h
  by_cases c : ws.length ≤ m.g
  · rw [if_pos c] at h
    exact absurd h str_ne.2.2.2.2.1
  · rw [if_neg c] at h
    cases e : atD ws m.g with
    | none =>
      rw [e] at h
      exact absurd h str_ne.2.2.2.2.2
    | some d =>
      rw [e] at h
      exact ⟨d, rfl, h, Nat.lt_of_not_le c⟩
theorem it1 {c : Bool} {A B : Prop} (h : c = true) (a : A) : if c = true then A else B := by rw [if_pos h]; exact a
theorem it0 {c : Bool} {A B : Prop} (h : c = false) (b : B) : if c = true then A else B := by rw [h]; exact b
theorem pick {c : Bool} {p : Prop} [Decidable p] {A B : Prop} (h : c = decide p) (ha : p → A) (hb : ¬ p → B) : if c = true then A else B := by
  by_cases e : p
  · exact it1 (h.trans (decide_eq_true e)) (ha e)
  · exact it0 (h.trans (decide_eq_false e)) (hb e)
theorem dec_nat {i j : Nat} : decide (V.int (i : Nat) = V.int (j : Nat)) = decide (i = j) := decide_eq_decide.mpr ⟨fun z => Int.ofNat.inj (V.int.inj z), fun z => by rw [z]⟩
theorem dec_len {l : List Int} {j : Nat} : decide (V.int ((vInts l).length : Nat) = V.int (j : Nat)) = decide (l.length = j) := by rw [dec_nat, ints_len]
theorem hin_cl {d : De} {gs : List Int} {m : MS} (dok : d.ok) : (d = .sgl 0) ∨ (∃ a, d = .reg 4 a) ∨ (∃ a, d = .reg 5 a) ∨ (∃ g far, d = .call g far) ∨ (∃ a, d = .reg 6 a) ∨ (d = .sgl 2) ∨
    ((∃ z rr, d.vals = .str z :: rr ∧ z ≠ "halt" ∧ z ≠ "ask" ∧ z ≠ "push" ∧ z ≠ "call" ∧ z ≠ "pop" ∧ z ≠ "back") ∧ d.hin gs m = "") := by
  cases d with
  | sgl k =>
    have hk : k < 3 := dok
    have hc : k = 0 ∨ k = 1 ∨ k = 2 := by omega
    rcases hc with rfl | rfl | rfl
    · exact .inl rfl
    · exact .inr (.inr (.inr (.inr (.inr (.inr ⟨⟨_, _, rfl, by decide +kernel⟩, rfl⟩)))))
    · exact .inr (.inr (.inr (.inr (.inr (.inl rfl)))))
  | reg k a =>
    obtain ⟨k3, k7, _⟩ := dok
    have hc : k = 3 ∨ k = 4 ∨ k = 5 ∨ k = 6 := by omega
    rcases hc with rfl | rfl | rfl | rfl
    · exact .inr (.inr (.inr (.inr (.inr (.inr ⟨⟨_, _, rfl, by decide +kernel⟩, rfl⟩)))))
    · exact .inr (.inl ⟨a, rfl⟩)
    · exact .inr (.inr (.inl ⟨a, rfl⟩))
    · exact .inr (.inr (.inr (.inr (.inl ⟨a, rfl⟩))))
  | sum k d a b =>
    have e : ∀ k, k < 8 → nm SM k ≠ "halt" ∧ nm SM k ≠ "ask" ∧ nm SM k ≠ "push" ∧ nm SM k ≠ "call" ∧ nm SM k ≠ "pop" ∧ nm SM k ≠ "back" := by decide +kernel
    exact .inr (.inr (.inr (.inr (.inr (.inr ⟨⟨_, _, rfl, e k dok.1⟩, rfl⟩)))))
  | call g far => exact .inr (.inr (.inr (.inl ⟨g, far, rfl⟩)))
  | _ => exact .inr (.inr (.inr (.inr (.inr (.inr ⟨⟨_, _, rfl, by decide +kernel⟩, rfl⟩)))))
noncomputable def goM (ws gs : List Int) (mk : MS → Bool) : Nat → Nat → List MS → MS → Str × List MS × MS
  | 0, _, hs, m => ("", hs, m)
  | c + 1, i, hs, m => if 0 < i ∧ mk m = true then ("mark", hs, m) else if hind ws gs m = "" then goM ws gs mk c (i + 1) (hs ++ [m]) (nxt ws gs m) else (hind ws gs m, hs, m)
def mkd (tt : List (Key × V)) (marked : Bool) (m : MS) : Bool := marked && (valV tt (.inl (m.g : Int))).isSome
theorem act_s (d : De) (gs : List Int) (m : MS) : (d.act gs m).s.length ≤ m.s.length + 1 ∧ (d.act gs m).n = m.n := by
  cases d with
  | sgl k => dsimp only [De.act]; split <;> exact ⟨Nat.le_succ _, rfl⟩
  | reg k a =>
    dsimp only [De.act]
    split
    · exact ⟨by rw [List.length_append]; exact Nat.le_refl _, rfl⟩
    · split
      · exact ⟨Nat.le_succ _, rfl⟩
      · split <;> exact ⟨Nat.le_succ _, rfl⟩
  | jump k g f => dsimp only [De.act]; split <;> exact ⟨Nat.le_succ _, rfl⟩
  | _ => exact ⟨Nat.le_succ _, rfl⟩
theorem if_of {t : TT} {a u : TS} {D : Ends} {σ : L2.St} {H : Hp} (b : Bool) (h : ∀ kk : Bool → Hp → Prop, kk b H → t σ H kk) (q : if b = true then a D σ H else u D σ H) : tIfS t a u D σ H := h _ q
def stD (m : MS) : PyData := .tuple [.tuple (m.r.map PyData.int), .tuple [.bool m.z, .bool m.y, .bool m.m], .tuple (m.p.map PyData.int), .tuple (m.k.map PyData.int), .int (m.g : Nat), .int (m.n : Nat)]
theorem same_mut {H1 G : Hp} {D : Addr} {o : HO} (e : Same H1 G) (hD : H1 D = none) : Same H1 (upd G D o) := fun b u h => by
  rw [upd_ne (fun z => by rw [z, hD] at h; cases h)]
  exact e b u h
theorem line0 {fs : List (Str × V)} (h : (fs.length).blt 1000 = true) : fs.length < 1000 := Nat.blt_eq.mp h
end Bm
set_option maxHeartbeats 1000000
namespace Bm
open PySem PySem.Spec PyProof.Rows L2
/-- where the law's own mill stands -/
structure Lx where
  M : Addr
  i : Addr
  g : Addr
  r : Addr
  c : Addr
  p : Addr
  k : Addr
  t : Addr
def Lx.kv (B : Lx) (a f g n : V) : List (Key × V) := [(.inr "image", .ref B.i), (.inr "given", .ref B.g), (.inr "used", a), (.inr "r", .ref B.r), (.inr "cells", .ref B.c), (.inr "flags", f), (.inr "pile", .ref B.p), (.inr "calls", .ref B.k), (.inr "place", g), (.inr "told", .ref B.t), (.inr "done", n)]
section
variable {B : Lx} {a f g n v : V}
theorem q_im : valV (B.kv a f g n) (.inr "image") = some (.ref B.i) := by kernel_rfl
theorem q_gi : valV (B.kv a f g n) (.inr "given") = some (.ref B.g) := by kernel_rfl
theorem q_us : valV (B.kv a f g n) (.inr "used") = some a := by kernel_rfl
theorem q_re : valV (B.kv a f g n) (.inr "r") = some (.ref B.r) := by kernel_rfl
theorem q_ce : valV (B.kv a f g n) (.inr "cells") = some (.ref B.c) := by kernel_rfl
theorem q_fl : valV (B.kv a f g n) (.inr "flags") = some f := by kernel_rfl
theorem q_pi : valV (B.kv a f g n) (.inr "pile") = some (.ref B.p) := by kernel_rfl
theorem q_ca : valV (B.kv a f g n) (.inr "calls") = some (.ref B.k) := by kernel_rfl
theorem q_pl : valV (B.kv a f g n) (.inr "place") = some g := by kernel_rfl
theorem q_to : valV (B.kv a f g n) (.inr "told") = some (.ref B.t) := by kernel_rfl
theorem q_do : valV (B.kv a f g n) (.inr "done") = some n := by kernel_rfl
theorem s_us : putK (B.kv a f g n) (.inr "used") v = B.kv v f g n := by kernel_rfl
theorem s_fl : putK (B.kv a f g n) (.inr "flags") v = B.kv a v g n := by kernel_rfl
theorem s_pl : putK (B.kv a f g n) (.inr "place") v = B.kv a f v n := by kernel_rfl
theorem s_do : putK (B.kv a f g n) (.inr "done") v = B.kv a f g v := by kernel_rfl
theorem kv_len : (B.kv a f g n).length < sizeLine := Nat.lt_of_lt_of_le (show 11 < 100000 by decide) (by decide)
end
theorem dg {H : Hp} {M : Addr} {kvs : List (Key × V)} {k : Key} {v : V} (h : H M = some (.dK kvs)) (e : valV kvs k = some v) : DGet H M (kV k) (some v) := by rw [← e]; exact DGet.k h
theorem dp {H : Hp} {M : Addr} {kvs kvs' : List (Key × V)} {k : Key} {v : V} (h : H M = some (.dK kvs)) (hl : kvs.length < sizeLine) (e : putK kvs k v = kvs') : DPut H M (kV k) v (upd H M (.dK kvs')) := by rw [← e]; exact DPut.k h hl
theorem ixN_ofM {n : Nat} {i : Int} (h0 : 0 ≤ i) (h1 : i < n) : ixN n i = some i.toNat := by
  unfold ixN
  rw [if_pos h0, if_pos h1]
theorem ints_set (l : List Int) (i : Nat) (x : Int) : (vInts l).set i (.int x) = vInts (l.set i x) := (List.map_set ..).symm
structure LAt (K : PySem.W.Frag) (H : Hp) (ws gs : List Int) (B : Lx) (m : MS) : Prop where
  d : ∃ f, H B.M = some (.dK (B.kv (.int (m.a : Nat)) (.ref f) (.int (m.g : Nat)) (.int (m.n : Nat)))) ∧ H f = some (.lst [.bl m.z, .bl m.y, .bl m.m]) ∧ f ≠ B.r ∧ f ≠ B.c ∧ f ≠ B.p ∧ f ≠ B.k ∧ f ≠ B.t ∧ f ≠ B.g
  i : SqT K H B.i (vInts ws)
  g : H B.g = some (.lst (vInts gs))
  r : H B.r = some (.lst (vInts m.r))
  c : H B.c = some (.lst (vInts m.c))
  p : H B.p = some (.lst (vInts m.p))
  k : H B.k = some (.lst (vInts m.k))
  t : H B.t = some (.lst (vInts m.s))
  nd : ([B.g, B.r, B.c, B.p, B.k, B.t] : List Addr).Nodup
/-- what stays when the law's mill goes on -/
def Lv (B : Lx) (H H' : Hp) : Prop := ∀ b o, H b = some o → b ∉ ([B.M, B.r, B.c, B.p, B.k, B.t] : List Addr) → H' b = some o
theorem Lv.of {B : Lx} {H H' : Hp} (e : Same H H') : Lv B H H' := fun b o h _ => e b o h
theorem Lv.trans {B : Lx} {H H1 H2 : Hp} (a : Lv B H H1) (b : Lv B H1 H2) : Lv B H H2 := fun c o h n => b c o (a c o h n) n
theorem Lv.put {B : Lx} {H : Hp} {x : Addr} {o : HO} (hx : x ∈ ([B.M, B.r, B.c, B.p, B.k, B.t] : List Addr)) : Lv B H (upd H x o) := fun b u h n => by
  rw [upd_ne (fun z => n (by rw [z]; exact hx))]
  exact h
theorem ne_dl {H : Hp} {a b : Addr} {l : List V} {kvs : List (Key × V)} (h : H a = some (.lst l)) (g : H b = some (.dK kvs)) : a ≠ b := fun z => by
  rw [z, g] at h
  cases h
section
variable {K : PySem.W.Frag} {H H' : Hp} {ws gs : List Int} {B : Lx} {m : MS}
theorem LAt.same (h : LAt K H ws gs B m) (e : Same H H') : LAt K H' ws gs B m := by
  obtain ⟨f, d1, d2, d3⟩ := h.d
  exact ⟨⟨f, e _ _ d1, e _ _ d2, d3⟩, Same.tup e h.i, e _ _ h.g, e _ _ h.r, e _ _ h.c, e _ _ h.p, e _ _ h.k, e _ _ h.t, h.nd⟩
theorem nd6 {a b c d e f : Addr} (h : ([a, b, c, d, e, f] : List Addr).Nodup) : (a ≠ b ∧ a ≠ c ∧ a ≠ d ∧ a ≠ e ∧ a ≠ f) ∧ (b ≠ c ∧ b ≠ d ∧ b ≠ e ∧ b ≠ f) ∧ (c ≠ d ∧ c ≠ e ∧ c ≠ f) ∧ (d ≠ e ∧ d ≠ f) ∧ e ≠ f := by
  simp only [List.nodup_cons, List.mem_cons, List.not_mem_nil, or_false, not_or] at h
  obtain ⟨h1, h2, h3, h4, h5, _⟩ := h
  exact ⟨h1, h2, h3, h4, h5⟩
theorem LAt.setR (h : LAt K H ws gs B m) (xs : List Int) : LAt K (upd H B.r (.lst (vInts xs))) ws gs B { m with r := xs } := by
  obtain ⟨f, d1, d2, f1, f2, f3, f4, f5, f6⟩ := h.d
  obtain ⟨⟨a1, a2, a3, a4, a5⟩, ⟨b1, b2, b3, b4⟩, ⟨c1, c2, c3⟩, ⟨e1, e2⟩, g1⟩ := nd6 h.nd
  exact ⟨⟨f, by rw [upd_ne (ne_dl h.r d1).symm]; exact d1, by rw [upd_ne f1]; exact d2, f1, f2, f3, f4, f5, f6⟩, SqT.put h.r True.intro h.i, by rw [upd_ne a1]; exact h.g, upd_same, by rw [upd_ne b1.symm]; exact h.c, by rw [upd_ne b2.symm]; exact h.p, by rw [upd_ne b3.symm]; exact h.k, by rw [upd_ne b4.symm]; exact h.t, h.nd⟩
theorem LAt.setC (h : LAt K H ws gs B m) (xs : List Int) : LAt K (upd H B.c (.lst (vInts xs))) ws gs B { m with c := xs } := by
  obtain ⟨f, d1, d2, f1, f2, f3, f4, f5, f6⟩ := h.d
  obtain ⟨⟨a1, a2, a3, a4, a5⟩, ⟨b1, b2, b3, b4⟩, ⟨c1, c2, c3⟩, ⟨e1, e2⟩, g1⟩ := nd6 h.nd
  exact ⟨⟨f, by rw [upd_ne (ne_dl h.c d1).symm]; exact d1, by rw [upd_ne f2]; exact d2, f1, f2, f3, f4, f5, f6⟩, SqT.put h.c True.intro h.i, by rw [upd_ne a2]; exact h.g, by rw [upd_ne b1]; exact h.r, upd_same, by rw [upd_ne c1.symm]; exact h.p, by rw [upd_ne c2.symm]; exact h.k, by rw [upd_ne c3.symm]; exact h.t, h.nd⟩
theorem LAt.setP (h : LAt K H ws gs B m) (xs : List Int) : LAt K (upd H B.p (.lst (vInts xs))) ws gs B { m with p := xs } := by
  obtain ⟨f, d1, d2, f1, f2, f3, f4, f5, f6⟩ := h.d
  obtain ⟨⟨a1, a2, a3, a4, a5⟩, ⟨b1, b2, b3, b4⟩, ⟨c1, c2, c3⟩, ⟨e1, e2⟩, g1⟩ := nd6 h.nd
  exact ⟨⟨f, by rw [upd_ne (ne_dl h.p d1).symm]; exact d1, by rw [upd_ne f3]; exact d2, f1, f2, f3, f4, f5, f6⟩, SqT.put h.p True.intro h.i, by rw [upd_ne a3]; exact h.g, by rw [upd_ne b2]; exact h.r, by rw [upd_ne c1]; exact h.c, upd_same, by rw [upd_ne e1.symm]; exact h.k, by rw [upd_ne e2.symm]; exact h.t, h.nd⟩
theorem LAt.setK (h : LAt K H ws gs B m) (xs : List Int) : LAt K (upd H B.k (.lst (vInts xs))) ws gs B { m with k := xs } := by
  obtain ⟨f, d1, d2, f1, f2, f3, f4, f5, f6⟩ := h.d
  obtain ⟨⟨a1, a2, a3, a4, a5⟩, ⟨b1, b2, b3, b4⟩, ⟨c1, c2, c3⟩, ⟨e1, e2⟩, g1⟩ := nd6 h.nd
  exact ⟨⟨f, by rw [upd_ne (ne_dl h.k d1).symm]; exact d1, by rw [upd_ne f4]; exact d2, f1, f2, f3, f4, f5, f6⟩, SqT.put h.k True.intro h.i, by rw [upd_ne a4]; exact h.g, by rw [upd_ne b3]; exact h.r, by rw [upd_ne c2]; exact h.c, by rw [upd_ne e1]; exact h.p, upd_same, by rw [upd_ne g1.symm]; exact h.t, h.nd⟩
theorem LAt.setT (h : LAt K H ws gs B m) (xs : List Int) : LAt K (upd H B.t (.lst (vInts xs))) ws gs B { m with s := xs } := by
  obtain ⟨f, d1, d2, f1, f2, f3, f4, f5, f6⟩ := h.d
  obtain ⟨⟨a1, a2, a3, a4, a5⟩, ⟨b1, b2, b3, b4⟩, ⟨c1, c2, c3⟩, ⟨e1, e2⟩, g1⟩ := nd6 h.nd
  exact ⟨⟨f, by rw [upd_ne (ne_dl h.t d1).symm]; exact d1, by rw [upd_ne f5]; exact d2, f1, f2, f3, f4, f5, f6⟩, SqT.put h.t True.intro h.i, by rw [upd_ne a5]; exact h.g, by rw [upd_ne b4]; exact h.r, by rw [upd_ne c3]; exact h.c, by rw [upd_ne e2]; exact h.p, by rw [upd_ne g1]; exact h.k, upd_same, h.nd⟩
/-- the dict is written: what was used, the flags, the place, how many were done -/
theorem LAt.setD (h : LAt K H ws gs B m) {m' : MS} {f : Addr} (hf : H f = some (.lst [.bl m'.z, .bl m'.y, .bl m'.m])) (hn : f ≠ B.r ∧ f ≠ B.c ∧ f ≠ B.p ∧ f ≠ B.k ∧ f ≠ B.t ∧ f ≠ B.g) (er : m'.r = m.r) (ec : m'.c = m.c) (ep : m'.p = m.p) (ek : m'.k = m.k) (es : m'.s = m.s) :
    LAt K (upd H B.M (.dK (B.kv (.int (m'.a : Nat)) (.ref f) (.int (m'.g : Nat)) (.int (m'.n : Nat))))) ws gs B m' := by
  obtain ⟨f0, d1, _⟩ := h.d
  exact ⟨⟨f, upd_same, by rw [upd_ne (ne_dl hf d1)]; exact hf, hn⟩, SqT.put d1 True.intro h.i, by rw [upd_ne (ne_dl h.g d1)]; exact h.g, by rw [upd_ne (ne_dl h.r d1), er]; exact h.r, by rw [upd_ne (ne_dl h.c d1), ec]; exact h.c, by rw [upd_ne (ne_dl h.p d1), ep]; exact h.p, by rw [upd_ne (ne_dl h.k d1), ek]; exact h.k, by rw [upd_ne (ne_dl h.t d1), es]; exact h.t, h.nd⟩
end
section
variable {P : Program} {w : World} {K : PySem.W.Frag} {mg : Str → Option Value} {base : Heap} {f : Addr} {fd : FuncData} {dvs : List V}
/-! _law_flagged -/
def spFlg (K : PySem.W.Frag) : Sp := fun vs H Q _ => ∃ (B : Lx) (ws gs : List Int) (m : MS) (d w : Int) (y : Bool), vs = [.ref B.M, .int d, .int w, .bl y] ∧ LAt K H ws gs B m ∧ m.r.length = 8 ∧ 0 ≤ d ∧ d ≤ 7 ∧ ∀ H', Lv B H H' → LAt K H' ws gs B (m.came d (w, y)) → Q .non H'
abbrev N__law_flagged : List Str := ["_law_m", "_law_d", "_law_found", "_law_carry"]
theorem sc__law_flagged : FnScope ["_law_m", "_law_d", "_law_found", "_law_carry"] ["_law_m", "_law_d", "_law_found", "_law_carry"] (defScope s__law_flagged) := ⟨rfl, rfl, rfl, by decide +kernel, rfl, by decide +kernel, by decide +kernel⟩
theorem ok_flagged (F : FnP K "_law_flagged" s__law_flagged dvs f fd) : FnOk P w K mg base CX0 1 f fd ["_law_m", "_law_d", "_law_found", "_law_carry"] (spFlg K) := by
  refine F.ok sc__law_flagged (fun vs H Q E h => ?_) (fun cdv A outer s H vs Q E hr h => ?_)
  · obtain ⟨B, ws, gs, m, d, w, y, rfl, _⟩ := h
    rfl
  · obtain ⟨B, ws, gs, m, d, w, y, rfl, hl, h8, d0, d7, q⟩ := h
    refine ⟨_, PSs.nox (pss_cons (ps_asg (pv 2) (pg_sub (pe_dget (hu_of hr) (pv 0) pe_str (fun _ _ => rfl)) (pv 1) set_list))
      (pss_one (ps_asg (pe_lst (pa_cons (pe_cmpR op_eq (pv 2) pe_int (nomark _)) (pa_cons (pv 3) (pa_cons (pe_cmpR op_gt (pv 2) pe_int (nomark _)) pa_nil)))) (pg_sub (pv 0) pe_str (set_dict (hu_of hr)))))), ?_⟩
    obtain ⟨f0, hM, hf, f1, f2, f3, f4, f5, f6⟩ := hl.d
    refine ⟨_, rfl, _, rfl, B.M, _, rfl, dg hM q_re, _, rfl, B.r, _, _, _, rfl, rfl, hl.r, ixN_ofM d0 (by rw [ints_len, h8]; omega), ?_⟩
    rw [ints_set]
    have h2 := hl.setR (m.r.set d.toNat w)
    have hM2 := (upd_ne (H := H) (o := .lst (vInts (m.r.set d.toNat w))) (ne_dl hl.r hM).symm).trans hM
    have hv2 : Lv B H (upd H B.r (.lst (vInts (m.r.set d.toNat w)))) := Lv.put (by simp)
    generalize upd H B.r (.lst (vInts (m.r.set d.toNat w))) = H2 at h2 hM2 hv2 ⊢
    refine ⟨_, rfl, rfl, _, rfl, _, rfl, _, _, rfl, rfl, line5 (by simp), fun l9 hl9 => ?_⟩
    have e1 : decide (V.int w = V.int 0) = decide (w = 0) := decide_eq_decide.mpr ⟨fun z => V.int.inj z, fun z => by rw [z]⟩
    rw [e1]
    have s3 : Same H2 (upd H2 l9 (.lst [V.bl (decide (w = 0)), V.bl y, V.bl (decide (32767 < w))])) := Same.add hl9
    have e3 : (upd H2 l9 (.lst [V.bl (decide (w = 0)), V.bl y, V.bl (decide (32767 < w))])) l9 = some (.lst [V.bl (decide (w = 0)), V.bl y, V.bl (decide (32767 < w))]) := upd_same
    generalize upd H2 l9 (.lst [V.bl (decide (w = 0)), V.bl y, V.bl (decide (32767 < w))]) = H3 at s3 e3 ⊢
    have h3 := h2.same s3
    have nl : ∀ {b o}, H2 b = some o → l9 ≠ b := fun e z => by
      rw [z, e] at hl9
      cases hl9
    refine ⟨_, rfl, B.M, _, rfl, dp (s3 _ _ hM2) kv_len s_fl, ?_⟩
    have h4 := h3.setD (m' := m.came d (w, y)) e3 ⟨nl h2.r, nl h2.c, nl h2.p, nl h2.k, nl h2.t, nl h2.g⟩ rfl rfl rfl rfl rfl
    exact q _ ((hv2.trans (Lv.of s3)).trans (Lv.put (by simp))) h4
abbrev KnFlg (P : Program) (w : World) (K : PySem.W.Frag) (mg : Str → Option Value) (base : Heap) : Prop := Kn P w K mg base CX0 1 "_law_flagged" ["_law_m", "_law_d", "_law_found", "_law_carry"] [] (spFlg K)
end
end Bm
set_option maxHeartbeats 1000000
namespace Bm
open PySem PySem.Spec PyProof.Rows L2
/-- one bit more of a word -/
theorem bit_more (x i : Nat) : x % 2 ^ (i + 1) = x % 2 ^ i + 2 ^ i * (x / 2 ^ i % 2) := by rw [Nat.pow_succ, Nat.mod_mul]
theorem bit_of (x i : Nat) : x / 2 ^ i % 2 = (x.testBit i).toNat := by
  rw [Nat.testBit_eq_decide_div_mod_eq]
  have := Nat.mod_two_eq_zero_or_one (x / 2 ^ i)
  rcases this with h | h <;> rw [h] <;> rfl
theorem bits_and (x y i : Nat) : (x &&& y) / 2 ^ i % 2 = min (x / 2 ^ i % 2) (y / 2 ^ i % 2) := by
  rw [bit_of, bit_of, bit_of, Nat.testBit_and]
  cases x.testBit i <;> cases y.testBit i <;> rfl
theorem bits_or (x y i : Nat) : (x ||| y) / 2 ^ i % 2 = max (x / 2 ^ i % 2) (y / 2 ^ i % 2) := by
  rw [bit_of, bit_of, bit_of, Nat.testBit_or]
  cases x.testBit i <;> cases y.testBit i <;> rfl
theorem bits_xor (x y i : Nat) : (x ^^^ y) / 2 ^ i % 2 = if x / 2 ^ i % 2 = y / 2 ^ i % 2 then 0 else 1 := by
  rw [bit_of, bit_of, bit_of, Nat.testBit_xor]
  cases x.testBit i <;> cases y.testBit i <;> rfl
def bop (k x y : Nat) : Nat := match k with
  | 2 => x &&& y
  | 3 => x ||| y
  | _ => x ^^^ y
theorem bop_lt {k x y : Nat} (hx : x < 2 ^ 16) (hy : y < 2 ^ 16) : bop k x y < 2 ^ 16 := by
  unfold bop
  split
  · exact Nat.lt_of_le_of_lt Nat.and_le_left hx
  · exact Nat.or_lt_two_pow hx hy
  · exact Nat.xor_lt_two_pow hx hy
theorem reck_bop {k x y : Nat} (c : k = 2 ∨ k = 3 ∨ k = 4) : reck k (x : Nat) (y : Nat) = (((bop k x y : Nat) : Int), false) := by
  rcases c with rfl | rfl | rfl
  · show (Builtin.bitAnd _ _, false) = _
    rw [bitAnd_nat]; rfl
  · show (Builtin.bitOr _ _, false) = _
    rw [bitOr_nat]; rfl
  · show (Builtin.bitXor _ _, false) = _
    rw [bitXor_nat]; rfl
section
variable {P : Program} {w : World} {K : PySem.W.Frag} {mg : Str → Option Value} {base : Heap} {f : Addr} {fd : FuncData} {dvs : List V}
/-! _law_brought -/
def spBrt (K : PySem.W.Frag) : Sp := fun vs H Q _ => ∃ (k : Nat) (a b : Int), vs = [.str (nm SM k), .int a, .int b] ∧ k < 8 ∧ isWd a ∧ isWd b ∧ ∀ p H', Same H H' → SqT K H' p [.int (reck k a b).1, .bl (reck k a b).2] → Q (.ref p) H'
abbrev N__law_brought : List Str := ["_law_word", "_law_one", "_law_other", "_law_by", "_law_turn", "_law_found", "_law_step", "_law_k", "_law_bits"]
theorem sc__law_brought : FnScope ["_law_word", "_law_one", "_law_other", "_law_by", "_law_turn", "_law_found", "_law_step", "_law_k", "_law_bits"] ["_law_word", "_law_one", "_law_other"] (defScope s__law_brought) := ⟨rfl, rfl, rfl, by decide +kernel, rfl, by decide +kernel, by decide +kernel⟩
theorem ok_brought (F : FnP K "_law_brought" s__law_brought dvs f fd) (g_range : mg "range" = none) (g_min : mg "min" = none) (g_max : mg "max" = none) (g_int : mg "int" = none) : FnOk P w K mg base CX0 1 f fd ["_law_word", "_law_one", "_law_other"] (spBrt K) := by
  refine F.ok sc__law_brought (fun vs H Q E h => ?_) (fun cdv A outer s H vs Q E hr h => ?_)
  · obtain ⟨k, a, b, rfl, _⟩ := h
    rfl
  · obtain ⟨k, a, b, rfl, hk, ha, hb, q⟩ := h
    refine ⟨_, PSs.nox (pss_cons (ps_set (i := 3) sc__law_brought.nd rfl (Or.inl rfl) pe_int)
      (pss_cons (ps_for PassesOwn.never rfl (pi_range1 rfl g_range (pa_cons (pe_op op_modN (pv 2) pe_int) pa_nil)) (pg_name (i := 4) sc__law_brought.nd rfl (Or.inl rfl))
      (pss_one (ps_set (i := 3) sc__law_brought.nd rfl (Or.inl rfl) (pe_op op_mul (pv 3) pe_int))))
      (pss_cons (ps_if (pt_cmpR op_in_seq (pv 0) (pe_tup (pa_cons pe_str (pa_cons pe_str (pa_cons pe_str pa_nil)))) rfl) (pss_cons (ps_asg (pe_tup (pa_cons pe_int (pa_cons pe_int pa_nil))) (pg_tup rfl (pgs_cons (pg_name (i := 5) sc__law_brought.nd rfl (Or.inl rfl)) (pgs_cons (pg_name (i := 6) sc__law_brought.nd rfl (Or.inl rfl)) pgs_nil))))
      (pss_cons (ps_for PassesOwn.never rfl (pi_range1 rfl g_range (pa_cons pe_int pa_nil)) (pg_name (i := 7) sc__law_brought.nd rfl (Or.inl rfl))
      (pss_cons (ps_set (i := 8) sc__law_brought.nd rfl (Or.inl rfl) (pe_lst (pa_cons (pe_op op_modN (pe_op op_fdivW (pv 1) (pv 6)) pe_int) (pa_cons (pe_op op_modN (pe_op op_fdivW (pv 2) (pv 6)) pe_int) pa_nil))))
      (pss_cons (ps_set (i := 5) sc__law_brought.nd rfl (Or.inl rfl) (pe_op op_add (pv 5) (pe_op op_mul (pv 6) (pe_dget (hu_of hr) (pe_disp (L2.pps_cons pe_str (pe_callB (cr_min rfl) rfl g_min (by decide +kernel) (pa_cons (pv 8) pa_nil)) (L2.pps_cons pe_str (pe_callB (cr_max rfl) rfl g_max (by decide +kernel) (pa_cons (pv 8) pa_nil)) (L2.pps_cons pe_str (pe_callTy call_int1 rfl g_int (by decide +kernel) (pa_cons (pe_cmpR op_ne (pe_ix ix_list (pv 8) pe_int (fun _ _ => rfl)) (pe_ix ix_list (pv 8) pe_int (fun _ _ => rfl)) (nomark _)) pa_nil)) L2.pps_nil))) rfl rfl (fun z => by cases z) (by decide)) (pv 0) (fun _ _ => rfl)))))
      (pss_one (ps_set (i := 6) sc__law_brought.nd rfl (Or.inl rfl) (pe_op op_mul (pv 6) pe_int))))))
      (pss_one (ps_ret (pe_tup (pa_cons (pv 5) (pa_cons pe_bl pa_nil))))))) pss_nil)
      (pss_cons (ps_if (pt_cmpR op_eq (pv 0) pe_str (nomark _)) (pss_one (ps_ret (pe_tup (pa_cons (pe_op op_add (pe_op op_modN (pe_op op_mul (pv 1) (pv 3)) pe_int) (pe_op op_fdivW (pe_op op_mul (pv 1) (pv 3)) pe_int)) (pa_cons pe_bl pa_nil))))) pss_nil)
      (pss_cons (ps_if (pt_cmpR op_eq (pv 0) pe_str (nomark _)) (pss_one (ps_ret (pe_tup (pa_cons (pe_op op_fdivW (pv 1) (pv 3)) (pa_cons (pe_cmpR op_gt (pe_op op_modN (pv 1) (pv 3)) pe_int (nomark _)) pa_nil))))) pss_nil)
      (pss_cons (ps_set (i := 5) sc__law_brought.nd rfl (Or.inl rfl) (pe_dget (hu_of hr) (pe_disp (L2.pps_cons pe_str (pe_op op_add (pv 1) (pv 2)) (L2.pps_cons pe_str (pe_op op_sub (pv 1) (pv 2)) (L2.pps_cons pe_str (pe_op op_mul (pv 1) (pv 3)) L2.pps_nil))) rfl rfl (fun z => by cases z) (by decide)) (pv 0) (fun _ _ => rfl)))
      (pss_one (ps_ret (pe_tup (pa_cons (pe_op op_modN (pv 5) pe_int) (pa_cons (pe_cmpR op_ne (pv 5) (pe_op op_modN (pv 5) pe_int) (nomark _)) pa_nil))))))))))), ?_⟩
    have hb0 : b.fmod 16 = ((oft b : Nat) : Int) := by
      rw [Int.fmod_eq_emod_of_nonneg _ (by decide)]
      unfold oft
      omega
    have ho := oft_lt b
    have ha2 := ha.2
    have ha1 := ha.1
    have hb1 := hb.1
    have hb2 := hb.2
    have pw : ∀ i, i ≤ 16 → (2 : Int) ^ i ≤ 65536 ∧ 0 < (2 : Int) ^ i := by decide +kernel
    have ez : ∀ k, k < 8 → inV (.str (nm SM k)) [.str "and", .str "or", .str "xor"] = decide (k = 2 ∨ k = 3 ∨ k = 4) ∧ decide (V.str (nm SM k) = V.str "turn") = decide (k = 7) ∧ decide (V.str (nm SM k) = V.str "right") = decide (k = 6) := by decide +kernel
    obtain ⟨z1, z2, z3⟩ := ez k hk
    refine ⟨_, rfl, _, _, rfl, rfl, (by show (16 : Int) ≠ 0; decide), ?_⟩
    refine ⟨((oft b : Nat) : Int), (by show [V.int (b.fmod 16)] = _; rw [hb0]), by omega, by omega, for_range (n := ((oft b : Nat) : Int).toNat) (fun i σ G => ∃ v4, σ = [some (.str (nm SM k)), some (.int a), some (.int b), some (.int (2 ^ i)), v4, none, none, none, none] ∧ G = H) ⟨none, rfl, rfl⟩ ?_ ?_⟩
    · rintro i σ G hi ⟨v4, rfl, rfl⟩
      have hi : i < oft b := by simpa using hi
      obtain ⟨p1, p2⟩ := pw i (by omega)
      refine ⟨_, rfl, _, _, rfl, rfl, .inr ⟨by decide, by decide⟩, some (.int (0 + (i : Nat))), ?_, rfl⟩
      rw [Int.pow_succ]
      rfl
    · rintro σ G ⟨v4, rfl, rfl⟩
      have eo : ((oft b : Nat) : Int).toNat = oft b := by simp
      rw [eo]
      obtain ⟨p1, p2⟩ := pw (oft b) (by omega)
      refine ⟨_, rfl, line5 (by simp), fun p3 hp3 => ?_⟩
      have s4 : Same G (upd G p3 (.tup [.str "and", .str "or", .str "xor"])) := Same.add hp3
      have h4 : (upd G p3 (.tup [.str "and", .str "or", .str "xor"])) p3 = some (.tup [.str "and", .str "or", .str "xor"]) := upd_same
      generalize upd G p3 (.tup [.str "and", .str "or", .str "xor"]) = H4 at s4 h4 ⊢
      refine ⟨_, _, rfl, .inr (SqT.of h4), rfl, rfl, _, rfl, ?_⟩
      show if inV (.str (nm SM k)) [.str "and", .str "or", .str "xor"] = true then _ else _
      rw [z1]
      by_cases c : k = 2 ∨ k = 3 ∨ k = 4
      · refine it1 (decide_eq_true c) ?_
        clear z1 z2 z3 ez
        obtain ⟨x, rfl, hx⟩ := wd_nat ha
        obtain ⟨y, rfl, hy⟩ := wd_nat hb
        refine ⟨line5 (by simp), fun p5 hp5 => ?_⟩
        have s5 : Same H4 (upd H4 p5 (.tup [.int 0, .int 1])) := Same.add hp5
        have h5 : (upd H4 p5 (.tup [.int 0, .int 1])) p5 = some (.tup [.int 0, .int 1]) := upd_same
        generalize upd H4 p5 (.tup [.int 0, .int 1]) = H5 at s5 h5 ⊢
        refine ⟨p5, [.int 0, .int 1], rfl, SqT.of h5, rfl, _, _, rfl, _, _, rfl, rfl, ?_⟩
        have s05 := Same.trans s4 s5
        refine ⟨_, rfl, by decide, by decide, for_range (n := 16) (fun i σ G1 => ∃ v7 v8, σ = [some (.str (nm SM k)), some (.int (x : Nat)), some (.int (y : Nat)), some (.int (2 ^ oft ((y : Nat) : Int))), v4, some (.int ((bop k x y % 2 ^ i : Nat) : Int)), some (.int ((2 ^ i : Nat) : Int)), v7, v8] ∧ Same G G1) ⟨none, none, by rw [Nat.pow_zero, Nat.mod_one]; rfl, s05⟩ ?_ ?_⟩
        · rintro i σ G1 hi ⟨v7, v8, rfl, s1⟩
          have hi : i < 16 := hi
          have p1 : 2 ^ i ≤ 65536 ∧ 0 < 2 ^ i := by
            have e : ∀ i, i < 16 → 2 ^ i ≤ 65536 ∧ 0 < 2 ^ i := by decide +kernel
            exact e i hi
          have lg : ((2 ^ i : Nat) : Int).natAbs.log2 < 9000 := by
            rw [Int.natAbs_natCast, Nat.log2_two_pow]
            omega
          have ex : ∀ z : Nat, ((z : Int) / ((2 ^ i : Nat) : Int)).fmod 2 = ((z / 2 ^ i % 2 : Nat) : Int) := fun z => by
            rw [Int.fmod_eq_emod_of_nonneg _ (by decide), Int.natCast_emod, Int.natCast_ediv]
            rfl
          have pp : (0 : Int) < ((2 ^ i : Nat) : Int) := by omega
          refine ⟨_, rfl, _, rfl, _, _, rfl, rfl, ⟨pp, lg⟩, _, _, rfl, rfl, (by show (2 : Int) ≠ 0; decide), _, rfl, _, rfl, _, _, rfl, rfl, ⟨pp, lg⟩, _, _, rfl, rfl, (by show (2 : Int) ≠ 0; decide), line5 (by simp), fun l1 hl1 => ?_⟩
          dsimp only
          rw [ex, ex]
          generalize hX : x / 2 ^ i % 2 = xb
          generalize hY : y / 2 ^ i % 2 = yb
          have xb2 : xb < 2 := by rw [← hX]; exact Nat.mod_lt _ (by decide)
          have yb2 : yb < 2 := by rw [← hY]; exact Nat.mod_lt _ (by decide)
          have s2 : Same G1 (upd G1 l1 (.lst [V.int (xb : Nat), V.int (yb : Nat)])) := Same.add hl1
          have e2 : (upd G1 l1 (.lst [V.int (xb : Nat), V.int (yb : Nat)])) l1 = some (.lst [V.int (xb : Nat), V.int (yb : Nat)]) := upd_same
          generalize upd G1 l1 (.lst [V.int (xb : Nat), V.int (yb : Nat)]) = G2 at s2 e2 ⊢
          refine ⟨_, rfl, _, rfl, fun pd hpd => ?_⟩
          have hL : SqL K (upd G2 pd (.dK [])) l1 (([(xb : Int), (yb : Int)] : List Int).map V.int) := SqL.of (Same.add hpd _ _ e2)
          refine ⟨_, rfl, l1, [(xb : Int), (yb : Int)], rfl, hL, by simp, fun mn hmn hlen => ?_⟩
          refine ⟨_, rfl, l1, [(xb : Int), (yb : Int)], rfl, hL, by simp, fun mx hmx hlex => ?_⟩
          refine ⟨_, rfl, l1, _, _, _, rfl, rfl, hL, at0, _, rfl, l1, _, _, _, rfl, rfl, hL, atI_nat (j := 1) rfl, rfl, .inr ⟨_, rfl, ?_⟩⟩
          refine ⟨upd_same, [(.inr "and", .int mn), (.inr "or", .int mx), (.inr "xor", .int (if (!decide (V.int (xb : Nat) = V.int (yb : Nat))) = true then 1 else 0))], rfl, Nat.le_of_ble_eq_true rfl, ?_⟩
          rw [upd_upd]
          have hval : valV (mergeK [] [(.inr "and", V.int mn), (.inr "or", V.int mx), (.inr "xor", V.int (if (!decide (V.int (xb : Nat) = V.int (yb : Nat))) = true then 1 else 0))]) (.inr (nm SM k)) = some (.int ((bop k x y / 2 ^ i % 2 : Nat) : Int)) := by
            simp only [List.mem_cons, List.not_mem_nil, or_false] at hmn hmx hlen hlex
            have n1 := hlen _ (.inl rfl)
            have n2 := hlen _ (.inr rfl)
            have x1 := hlex _ (.inl rfl)
            have x2 := hlex _ (.inr rfl)
            rcases c with rfl | rfl | rfl
            · have e : mn = ((bop 2 x y / 2 ^ i % 2 : Nat) : Int) := by
                show mn = (((x &&& y) / 2 ^ i % 2 : Nat) : Int)
                rw [bits_and, hX, hY]
                omega
              rw [← e]
              kernel_rfl
            · have e : mx = ((bop 3 x y / 2 ^ i % 2 : Nat) : Int) := by
                show mx = (((x ||| y) / 2 ^ i % 2 : Nat) : Int)
                rw [bits_or, hX, hY]
                omega
              rw [← e]
              kernel_rfl
            · have e : (if (!decide (V.int (xb : Nat) = V.int (yb : Nat))) = true then (1 : Int) else 0) = ((bop 4 x y / 2 ^ i % 2 : Nat) : Int) := by
                show _ = (((x ^^^ y) / 2 ^ i % 2 : Nat) : Int)
                rw [bits_xor, hX, hY, dec_nat]
                by_cases z : xb = yb
                · rw [decide_eq_true z, if_pos z]; rfl
                · rw [decide_eq_false z, if_neg z]; rfl
              rw [e]
              kernel_rfl
          have s3 : Same G2 (upd G2 pd (.dK (mergeK [] [(.inr "and", V.int mn), (.inr "or", V.int mx), (.inr "xor", V.int (if (!decide (V.int (xb : Nat) = V.int (yb : Nat))) = true then 1 else 0))]))) := Same.add hpd
          have e3 : (upd G2 pd (.dK (mergeK [] [(.inr "and", V.int mn), (.inr "or", V.int mx), (.inr "xor", V.int (if (!decide (V.int (xb : Nat) = V.int (yb : Nat))) = true then 1 else 0))]))) pd = some (.dK (mergeK [] [(.inr "and", V.int mn), (.inr "or", V.int mx), (.inr "xor", V.int (if (!decide (V.int (xb : Nat) = V.int (yb : Nat))) = true then 1 else 0))])) := upd_same
          generalize upd G2 pd (.dK (mergeK [] [(.inr "and", V.int mn), (.inr "or", V.int mx), (.inr "xor", V.int (if (!decide (V.int (xb : Nat) = V.int (yb : Nat))) = true then 1 else 0))])) = G3 at s3 e3 ⊢
          refine ⟨_, rfl, pd, _, rfl, dg (k := .inr (nm SM k)) e3 hval, _, _, rfl, rfl, .inl ⟨by omega, by omega⟩, _, _, rfl, rfl, ?_⟩
          refine ⟨_, rfl, _, _, rfl, rfl, .inr ⟨by decide, by decide⟩, some (.int (0 + (i : Nat))), some (.ref l1), ?_, Same.trans s1 (Same.trans s2 s3)⟩
          have em := bit_more (bop k x y) i
          have e1 : ((bop k x y % 2 ^ i : Nat) : Int) + ((2 ^ i : Nat) : Int) * ((bop k x y / 2 ^ i % 2 : Nat) : Int) = ((bop k x y % 2 ^ (i + 1) : Nat) : Int) := by
            rw [em, Int.natCast_add, Int.natCast_mul]
          have e4 : ((2 ^ i : Nat) : Int) * 2 = ((2 ^ (i + 1) : Nat) : Int) := by rw [Nat.pow_succ, Int.natCast_mul]; rfl
          rw [← e1, ← e4]
          rfl
        · rintro σ G1 ⟨v7, v8, rfl, s1⟩
          refine ⟨_, rfl, line5 (by simp), fun pq hpq => ?_⟩
          have hb : bop k x y % 2 ^ 16 = bop k x y := Nat.mod_eq_of_lt (bop_lt hx hy)
          rw [hb]
          exact q pq _ (Same.trans s1 (Same.add hpq)) (SqT.of (upd_same.trans (by rw [reck_bop c])))
      · refine it0 (decide_eq_false c) ?_
        have fm : ∀ n : Int, n.fmod 65536 = n % 65536 := fun n => Int.fmod_eq_emod_of_nonneg _ (by decide)
        refine ⟨_, rfl, rfl, _, rfl, pick (p := k = 7) z2 (fun e7 => ?_) (fun e7 => ?_)⟩
        · subst e7
          refine ⟨_, rfl, _, rfl, _, _, rfl, rfl, .inl ⟨by omega, by omega⟩, _, _, rfl, rfl, (by show (65536 : Int) ≠ 0; decide), _, rfl, _, rfl, _, _, rfl, rfl, .inl ⟨by omega, by omega⟩, _, _, rfl, rfl, ⟨by decide, by decide +kernel⟩, _, _, rfl, rfl, line5 (by simp), fun pq hpq => ?_⟩
          rw [fm]
          exact q pq _ (Same.trans s4 (Same.add hpq)) (SqT.of upd_same)
        · refine ⟨_, rfl, rfl, _, rfl, pick (p := k = 6) z3 (fun e6 => ?_) (fun e6 => ?_)⟩
          · subst e6
            have lg : ((2 : Int) ^ oft b).natAbs.log2 < 9000 := by
              have e : ∀ i, i < 16 → ((2 : Int) ^ i).natAbs.log2 < 9000 := by decide +kernel
              exact e _ ho
            refine ⟨_, rfl, _, rfl, _, _, rfl, rfl, ⟨p2, lg⟩, _, rfl, _, rfl, _, _, rfl, rfl, (by show (2 : Int) ^ oft b ≠ 0; omega), _, _, rfl, rfl, line5 (by simp), fun pq hpq => ?_⟩
            have e2 : decide (0 < a.fmod (2 ^ oft b)) = !decide (a / 2 ^ oft b * 2 ^ oft b = a) := by
              rw [Int.fmod_eq_emod_of_nonneg _ (Int.le_of_lt p2)]
              have e3 := Int.emod_add_mul_ediv a (2 ^ oft b)
              have e4 := Int.emod_nonneg a (b := 2 ^ oft b) (by omega)
              rw [Int.mul_comm] at e3
              by_cases z : a / 2 ^ oft b * 2 ^ oft b = a
              · rw [decide_eq_true z, decide_eq_false (by omega)]; rfl
              · rw [decide_eq_false z, decide_eq_true (by omega)]; rfl
            exact q pq _ (Same.trans s4 (Same.add hpq)) (SqT.of (upd_same.trans (congrArg (fun z => some (HO.tup [V.int (a / 2 ^ oft b), V.bl z])) e2)))
          · have hc : k = 0 ∨ k = 1 ∨ k = 5 := by omega
            have ne : ∀ x y : Int, (!decide (V.int x = V.int y)) = !decide (y = x) := fun x y => congrArg Bool.not (decide_eq_decide.mpr ⟨fun z => (V.int.inj z).symm, fun z => by rw [z]⟩)
            have tail : ∀ (v : Int) (G6 : Hp), Same G G6 → reck k a b = (v % 65536, !decide (v % 65536 = v)) → ∀ pq, G6 pq = none → Q (.ref pq) (upd G6 pq (.tup [.int (v.fmod 65536), .bl (!decide (V.int v = V.int (v.fmod 65536)))])) := fun v G6 s6 e pq hpq => by
              rw [ne, fm]
              exact q pq _ (Same.trans s6 (Same.add hpq)) (SqT.of (upd_same.trans (by rw [e])))
            refine fun pd hpd => ?_
            refine ⟨_, rfl, _, rfl, _, _, rfl, rfl, _, rfl, _, rfl, _, _, rfl, rfl, _, rfl, _, rfl, _, _, rfl, rfl, .inl ⟨by omega, by omega⟩, upd_same, [(.inr "add", .int (a + b)), (.inr "less", .int (a - b)), (.inr "left", .int (a * 2 ^ oft b))], rfl, Nat.le_of_ble_eq_true rfl, ?_⟩
            rw [upd_upd]
            have s6 : Same H4 (upd H4 pd (.dK (mergeK [] [(.inr "add", V.int (a + b)), (.inr "less", V.int (a - b)), (.inr "left", V.int (a * 2 ^ oft b))]))) := Same.add hpd
            have h6 : (upd H4 pd (.dK (mergeK [] [(.inr "add", V.int (a + b)), (.inr "less", V.int (a - b)), (.inr "left", V.int (a * 2 ^ oft b))]))) pd = some (.dK (mergeK [] [(.inr "add", V.int (a + b)), (.inr "less", V.int (a - b)), (.inr "left", V.int (a * 2 ^ oft b))])) := upd_same
            generalize upd H4 pd (.dK (mergeK [] [(.inr "add", V.int (a + b)), (.inr "less", V.int (a - b)), (.inr "left", V.int (a * 2 ^ oft b))])) = H6 at s6 h6 ⊢
            rcases hc with rfl | rfl | rfl
            · refine ⟨_, rfl, pd, V.int (a + b), rfl, dg (k := .inr "add") h6 (by kernel_rfl), ?_⟩
              exact ⟨_, rfl, _, _, rfl, rfl, (by show (65536 : Int) ≠ 0; decide), _, rfl, _, rfl, _, _, rfl, rfl, (by show (65536 : Int) ≠ 0; decide), rfl, line5 (by simp), tail _ _ (Same.trans s4 s6) rfl⟩
            · refine ⟨_, rfl, pd, V.int (a - b), rfl, dg (k := .inr "less") h6 (by kernel_rfl), ?_⟩
              exact ⟨_, rfl, _, _, rfl, rfl, (by show (65536 : Int) ≠ 0; decide), _, rfl, _, rfl, _, _, rfl, rfl, (by show (65536 : Int) ≠ 0; decide), rfl, line5 (by simp), tail _ _ (Same.trans s4 s6) rfl⟩
            · refine ⟨_, rfl, pd, V.int (a * 2 ^ oft b), rfl, dg (k := .inr "left") h6 (by kernel_rfl), ?_⟩
              exact ⟨_, rfl, _, _, rfl, rfl, (by show (65536 : Int) ≠ 0; decide), _, rfl, _, rfl, _, _, rfl, rfl, (by show (65536 : Int) ≠ 0; decide), rfl, line5 (by simp), tail _ _ (Same.trans s4 s6) rfl⟩
abbrev KnBrt (P : Program) (w : World) (K : PySem.W.Frag) (mg : Str → Option Value) (base : Heap) : Prop := Kn P w K mg base CX0 1 "_law_brought" ["_law_word", "_law_one", "_law_other"] [] (spBrt K)
end
end Bm
set_option maxHeartbeats 800000
namespace Bm
open PySem PySem.Spec PyProof.Rows L2
end Bm
set_option maxHeartbeats 1600000
namespace Bm
open PySem PySem.Spec PyProof.Rows L2
theorem rix_seq {K : PySem.W.Frag} {H : Hp} {a : Addr} {xs : List V} {i : Int} {v : V} {Q : VK} (hS : SqL K H a xs ∨ SqT K H a xs) (hx : atI xs i = some v) (q : Q v H) : rIx K (.ref a) (.int i) H Q := by
  rcases hS with h | h
  · exact .inl ⟨a, xs, i, v, rfl, rfl, h, hx, q⟩
  · exact .inr (.inl ⟨a, xs, i, v, rfl, rfl, h, hx, q⟩)
theorem seq_same {K : PySem.W.Frag} {H H' : Hp} {a : Addr} {xs : List V} (e : Same H H') (h : SqL K H a xs ∨ SqT K H a xs) : SqL K H' a xs ∨ SqT K H' a xs := h.imp (fun h => e.seq h) (fun h => Same.tup e h)
theorem is1 {ws : List Int} {p : Nat} {x : Int} {d : De} (hx : ws[p]? = some x) (h1 : d.ok) (h2 : d.reached p) (h3 : d.words p = [x]) : IsAt ws p d := by
  obtain ⟨hl, e⟩ := List.getElem?_eq_some_iff.mp hx
  refine ⟨h1, h2, ?_⟩
  rw [h3, List.drop_eq_getElem_cons hl, e]
  rfl
theorem is2 {ws : List Int} {p : Nat} {x y : Int} {d : De} (hx : ws[p]? = some x) (hy : ws[p + 1]? = some y) (h1 : d.ok) (h2 : d.reached p) (h3 : d.words p = [x, y]) : IsAt ws p d := by
  obtain ⟨hl, e⟩ := List.getElem?_eq_some_iff.mp hx
  obtain ⟨hm, e2⟩ := List.getElem?_eq_some_iff.mp hy
  refine ⟨h1, h2, ?_⟩
  rw [h3, List.drop_eq_getElem_cons hl, e, List.drop_eq_getElem_cons hm, e2]
  rfl
/-- what a word is that a deed begins with -/
theorem at_form {ws : List Int} {p : Nat} {d : De} {x : Int} (h : IsAt ws p d) (hx : ws[p]? = some x) :
    (∃ k : Nat, k < 3 ∧ x = k * 512) ∨ (∃ (k : Nat) (a : Int), 3 ≤ k ∧ k < 7 ∧ 0 ≤ a ∧ a ≤ 7 ∧ x = k * 512 + a * 64) ∨ (4096 ≤ x ∧ x < 16384) ∨ (∃ a n : Int, 0 ≤ a ∧ a ≤ 7 ∧ 0 ≤ n ∧ n ≤ 127 ∧ x = 16384 + a * 512 + n) ∨ (20480 ≤ x ∧ x < 28672) ∨
    (∃ (k : Nat) (g : Int), k < 7 ∧ 0 ≤ g ∧ near g p ∧ x = 28672 + k * 512 + (g - p - 1) % 32) ∨ (∃ k : Nat, k < 7 ∧ x = 32768 + k * 512 ∧ p + 1 < ws.length) ∨
    (∃ g : Int, 0 ≤ g ∧ near g p ∧ x = 36864 + (g - p - 1) % 32) ∨ (x = 40960 ∧ p + 1 < ws.length) := by
  have hw := at_words h hx
  obtain ⟨ok, re, _⟩ := h
  have single : ∀ {w : Int}, d.words p = [w] → x = w := fun {w} e => by
    rcases hw with ⟨y, e2, _⟩ | e2
    · rw [e] at e2; cases e2
    · rw [e] at e2
      exact ((List.cons.inj e2).1).symm
  have double : ∀ {w g : Int}, d.words p = [w, g] → x = w ∧ p + 1 < ws.length := fun {w g} e => by
    rcases hw with ⟨y, e2, e3⟩ | e2
    · rw [e] at e2
      exact ⟨((List.cons.inj e2).1).symm, (List.getElem?_eq_some_iff.mp e3).1⟩
    · rw [e] at e2; cases e2
  cases d with
  | sgl k => exact .inl ⟨k, ok, single rfl⟩
  | reg k a =>
    obtain ⟨k3, k7, ha⟩ := ok
    exact .inr (.inl ⟨k, a, k3, k7, ha.1, ha.2, single rfl⟩)
  | sum k d a b =>
    obtain ⟨hk, hd, ha, hb⟩ := ok
    have hd : 0 ≤ d ∧ d ≤ 7 := hd
    have ha : 0 ≤ a ∧ a ≤ 7 := ha
    have hb : 0 ≤ b ∧ b ≤ 7 := hb
    have e : x = 4096 + d * 512 + a * 64 + b * 8 + (k : Int) := single rfl
    exact .inr (.inr (.inl ⟨by omega, by omega⟩))
  | plus d a n =>
    obtain ⟨hd, ha, hn⟩ := ok
    have hd : 0 ≤ d ∧ d ≤ 7 := hd
    have ha : 0 ≤ a ∧ a ≤ 7 := ha
    have e : x = 8192 + d * 512 + a * 64 + n % 64 := single rfl
    exact .inr (.inr (.inl ⟨by omega, by omega⟩))
  | set d n =>
    obtain ⟨hd, hn⟩ := ok
    have hd : 0 ≤ d ∧ d ≤ 7 := hd
    have e : x = 12288 + d * 512 + n := single rfl
    exact .inr (.inr (.inl ⟨by omega, by omega⟩))
  | high d n =>
    obtain ⟨hd, hn⟩ := ok
    exact .inr (.inr (.inr (.inl ⟨d, n, hd.1, hd.2, hn.1, hn.2, single rfl⟩)))
  | load d a n =>
    obtain ⟨hd, ha, hn⟩ := ok
    have hd : 0 ≤ d ∧ d ≤ 7 := hd
    have ha : 0 ≤ a ∧ a ≤ 7 := ha
    have e : x = 20480 + d * 512 + a * 64 + n := single rfl
    exact .inr (.inr (.inr (.inr (.inl ⟨by omega, by omega⟩))))
  | store d a n =>
    obtain ⟨hd, ha, hn⟩ := ok
    have hd : 0 ≤ d ∧ d ≤ 7 := hd
    have ha : 0 ≤ a ∧ a ≤ 7 := ha
    have e : x = 24576 + d * 512 + a * 64 + n := single rfl
    exact .inr (.inr (.inr (.inr (.inl ⟨by omega, by omega⟩))))
  | jump k g f =>
    cases f with
    | true =>
      obtain ⟨e, l⟩ := double (w := 32768 + (k : Int) * 512) (g := g) rfl
      exact .inr (.inr (.inr (.inr (.inr (.inr (.inl ⟨k, ok.1, e, l⟩))))))
    | false => exact .inr (.inr (.inr (.inr (.inr (.inl ⟨k, g, ok.1, ok.2.1, re, single rfl⟩)))))
  | call g f =>
    have hg : 0 ≤ g ∧ g ≤ 65535 := ok
    cases f with
    | true =>
      obtain ⟨e, l⟩ := double (w := 40960) (g := g) rfl
      exact .inr (.inr (.inr (.inr (.inr (.inr (.inr (.inr ⟨e, l⟩)))))))
    | false => exact .inr (.inr (.inr (.inr (.inr (.inr (.inr (.inl ⟨g, hg.1, re, single rfl⟩)))))))
theorem at_none {ws : List Int} {p : Nat} {x g0 : Int} (hx : ws[p]? = some x) (c0 : ¬ x / 4096 = 0) (c1 : ¬ x / 4096 = 1) (c2 : ¬ x / 4096 = 2) (c3 : ¬ x / 4096 = 3) (c4 : ¬ (x / 4096 = 4 ∧ x % 4096 % 512 < 128)) (c5 : ¬ x / 4096 = 5) (c6 : ¬ x / 4096 = 6) (hn : near g0 p) (hm : (g0 - (p : Int) - 1) % 32 = x % 32)
    (c7 : ¬ (x / 4096 = 7 ∧ x % 4096 / 512 < 7 ∧ x % 4096 % 512 < 32 ∧ 0 ≤ g0)) (c9 : ¬ (x / 4096 = 9 ∧ x % 4096 < 32 ∧ 0 ≤ g0)) (h1 : ∀ k : Nat, k < 7 → x = 32768 + k * 512 → p + 1 < ws.length → False) (h2 : x = 40960 → p + 1 < ws.length → False) : ∀ d, ¬ IsAt ws p d := fun d hd => by
  have hn : -16 ≤ g0 - (p : Int) - 1 ∧ g0 - (p : Int) - 1 ≤ 15 := hn
  rcases at_form hd hx with ⟨k, h⟩ | ⟨k, b, h⟩ | h | ⟨b, n, h⟩ | h | ⟨k, g, g1, g2, g3, g4⟩ | ⟨k, h⟩ | ⟨g, g2, g3, g4⟩ | h
  · clear hm c7 c9 c4
    omega
  · clear hm c7 c9 c4
    omega
  · clear hm c7 c9 c4
    omega
  · clear hm c7 c9
    exact c4 ⟨by omega, by omega⟩
  · clear hm c7 c9 c4
    omega
  · have g3 : -16 ≤ g - (p : Int) - 1 ∧ g - (p : Int) - 1 ≤ 15 := g3
    have e : g0 = g := by
      have e32 : (g - (p : Int) - 1) % 32 = x % 32 := by clear c4 c7 c9 hm; omega
      clear c0 c1 c2 c3 c4 c5 c6 c7 c9 g4
      omega
    clear hm c4 c9
    exact c7 ⟨by omega, by omega, by omega, by rw [e]; exact g2⟩
  · exact h1 k h.1 h.2.1 h.2.2
  · have g3 : -16 ≤ g - (p : Int) - 1 ∧ g - (p : Int) - 1 ≤ 15 := g3
    have e : g0 = g := by
      have e32 : (g - (p : Int) - 1) % 32 = x % 32 := by clear c4 c7 c9 hm; omega
      clear c0 c1 c2 c3 c4 c5 c6 c7 c9 g4
      omega
    clear hm c4 c7
    exact c9 ⟨by omega, by omega, by rw [e]; exact g2⟩
  · exact h2 h.1 h.2
theorem none_at : ∀ k, k < 8 → ((SG ++ (["none"] : List Str)).map V.str)[k]? = some (.str (nm (SG ++ (["none"] : List Str)) k)) ∧ (nm (SG ++ (["none"] : List Str)) k = "none" ↔ k = 7) ∧ (k < 7 → nm (SG ++ (["none"] : List Str)) k = nm SG k) := by decide +kernel
section
variable {P : Program} {w : World} {K : PySem.W.Frag} {mg : Str → Option Value} {base : Heap} {f : Addr} {fd : FuncData} {dvs : List V} {odd : List Str}
/-! _law_deed_at -/
def spLAt (K : PySem.W.Frag) : Sp := fun vs H Q _ => ∃ (a : Addr) (ws : List Int) (p : Nat), vs = [.ref a, .int (p : Nat)] ∧ (SqL K H a (vInts ws) ∨ SqT K H a (vInts ws)) ∧ p < ws.length ∧ (∀ x ∈ ws, 0 ≤ x ∧ x < 65536) ∧ p + 100 ≤ 65535 ∧
  (∀ d r pd H', IsAt ws p d → Same H H' → SqT K H' pd d.vals → SqT K H' r [.ref pd, .int ((d.words p).length : Nat)] → Q (.ref r) H') ∧ ((∀ d, ¬ IsAt ws p d) → ∀ H', Same H H' → Q .non H')
abbrev N__law_deed_at : List Str := ["_law_image_here", "_law_place", "_law_form", "_law_rest", "_law_d", "_law_a", "_law_b", "_law_low", "_law_word", "_law_number_here", "_law_near"]
theorem sc__law_deed_at : FnScope ["_law_image_here", "_law_place", "_law_form", "_law_rest", "_law_d", "_law_a", "_law_b", "_law_low", "_law_word", "_law_number_here", "_law_near"] ["_law_image_here", "_law_place"] (defScope s__law_deed_at) := ⟨rfl, rfl, rfl, by decide +kernel, rfl, by decide +kernel, by decide +kernel⟩
theorem ok_lat (F : FunD K "_law_deed_at" "_law_deed_at" (defArgs s__law_deed_at) (defBody s__law_deed_at) (defScope s__law_deed_at) dvs [] f fd) (k__law_plain : KnNm P w K mg base "_law_plain" SG) (k__law_pairs : KnNm P w K mg base "_law_pairs" SM) (k__law_times : KnNm P w K mg base "_law_times" TM)
    (g_divmod : mg "divmod" = none) (g_int : mg "int" = none) (g_len : mg "len" = none) : FnOk P w K mg base CX0 2 f fd ["_law_image_here", "_law_place"] (spLAt K) := by
  refine F.ok sc__law_deed_at (fun vs H Q E h => ?_) (fun cdv A outer s H vs Q E hr h => ?_)
  · obtain ⟨a, ws, p, rfl, _⟩ := h
    rfl
  · obtain ⟨a, ws, p, rfl, hS, hp, hw, hp2, q1, q2⟩ := h
    refine ⟨_, PSs.nox (pss_cons (ps_asg (pe_callB call_divmod rfl g_divmod (by decide +kernel) (pa_cons (pe_ix ix_seq (pv 0) (pv 1) (fun _ _ => rfl)) (pa_cons pe_int pa_nil))) (pg_tup rfl (pgs_cons (pg_name (i := 2) sc__law_deed_at.nd rfl (Or.inl rfl)) (pgs_cons (pg_name (i := 3) sc__law_deed_at.nd rfl (Or.inl rfl)) pgs_nil))))
      (Evl.pss_cut (ps_asg (pe_tup (pa_cons (pe_op op_fdivN (pv 3) pe_int) (pa_cons (pe_op op_modN (pe_op op_fdivN (pv 3) pe_int) pe_int) (pa_cons (pe_op op_modN (pe_op op_fdivN (pv 3) pe_int) pe_int) (pa_cons (pe_op op_modN (pv 3) pe_int) pa_nil))))) (pg_tup rfl (pgs_cons (pg_name (i := 4) sc__law_deed_at.nd rfl (Or.inl rfl)) (pgs_cons (pg_name (i := 5) sc__law_deed_at.nd rfl (Or.inl rfl)) (pgs_cons (pg_name (i := 6) sc__law_deed_at.nd rfl (Or.inl rfl)) (pgs_cons (pg_name (i := 7) sc__law_deed_at.nd rfl (Or.inl rfl)) pgs_nil))))))
      (pss_cons (ps_if (pt_cmpR op_eq (pv 2) pe_int (nomark _)) (pss_cons (ps_set (i := 8) sc__law_deed_at.nd rfl (Or.inl rfl) (pe_ix ix_list (pe_op op_cat (pk0 k__law_plain hr (by decide) rfl pass0) (pe_lst (pa_cons pe_str pa_nil))) (pv 4) (fun _ _ => rfl)))
      (pss_cons (ps_if (PW.pt (pw_or (pt_cmpR op_gt (pe_op op_modN (pv 3) pe_int) pe_int (nomark _)) (pw_or (pt_cmpR op_eq (pv 8) pe_str (nomark _)) (pw_or1 (PW.pt (pw_and (pt_cmpR op_lt (pv 4) pe_int (nomark _)) (pw_and1 (pt_cmpR op_gt (pv 5) pe_int (nomark _))))))))) (pss_one (ps_ret pe_non)) pss_nil)
      (pss_one (ps_ret (pe_tup (pa_cons (pe_op op_catA (pe_tup (pa_cons (pv 8) pa_nil)) (pe_ifExp (pt_cmpR op_lt (pv 4) pe_int (nomark _)) (pe_tup pa_nil) (pe_tup (pa_cons (pv 5) pa_nil)))) (pa_cons pe_int pa_nil))))))) pss_nil)
      (pss_cons (ps_if (pt_cmpR op_eq (pv 2) pe_int (nomark _)) (pss_one (ps_ret (pe_tup (pa_cons (pe_tup (pa_cons (pe_ix ix_list (pk0 k__law_pairs hr (by decide) rfl pass0) (pv 7) (fun _ _ => rfl)) (pa_cons (pv 4) (pa_cons (pv 5) (pa_cons (pv 6) pa_nil))))) (pa_cons pe_int pa_nil))))) pss_nil)
      (pss_cons (ps_if (pt_cmpR op_in_seq (pv 2) (pe_tup (pa_cons pe_int (pa_cons pe_int (pa_cons pe_int pa_nil)))) rfl) (pss_cons (ps_set (i := 9) sc__law_deed_at.nd rfl (Or.inl rfl) (pe_op op_sub (pe_op op_modN (pv 3) pe_int) (pe_op op_mul pe_int (pe_callTy call_int1 rfl g_int (by decide +kernel) (pa_cons (pe_and (pe_cmpR op_eq (pv 2) pe_int (nomark _)) (pe_one (pe_cmpR op_gt (pe_op op_modN (pv 3) pe_int) pe_int (nomark _)))) pa_nil)))))
      (pss_one (ps_ret (pe_tup (pa_cons (pe_tup (pa_cons (pe_ix ix_list (pe_lst (pa_cons pe_str (pa_cons pe_str (pa_cons pe_str pa_nil)))) (pe_bm PySem.F.plainAttrs_list PySem.F.slot_list_index PySem.F.type_list_index mt_index (pe_lst (pa_cons pe_int (pa_cons pe_int (pa_cons pe_int pa_nil)))) (pa_cons (pv 2) pa_nil)) (fun _ _ => rfl)) (pa_cons (pv 4) (pa_cons (pv 5) (pa_cons (pv 9) pa_nil))))) (pa_cons pe_int pa_nil)))))) pss_nil)
      (Evl.pss_cut (ps_if (PW.pt (pw_or (pt_cmpR op_eq (pv 2) pe_int (nomark _)) (pw_or1 (PW.pt (pw_and (pt_cmpR op_eq (pv 2) pe_int (nomark _)) (pw_and1 (pt_cmpR op_lt (pe_op op_modN (pv 3) pe_int) pe_int (nomark _)))))))) (pss_one (ps_ret (pe_tup (pa_cons (pe_tup (pa_cons (pe_ix ix_list (pe_lst (pa_cons pe_str (pa_cons pe_str pa_nil))) (pe_op op_sub (pv 2) pe_int) (fun _ _ => rfl)) (pa_cons (pv 4) (pa_cons (pe_op op_modN (pv 3) pe_int) pa_nil)))) (pa_cons pe_int pa_nil))))) pss_nil)
      (pss_cons (ps_set (i := 10) sc__law_deed_at.nd rfl (Or.inl rfl) (pe_op op_sub (pe_op op_add (pe_op op_add (pv 1) pe_int) (pe_op op_modN (pv 3) pe_int)) (pe_op op_mul pe_int (pe_callTy call_int1 rfl g_int (by decide +kernel) (pa_cons (pe_cmpR op_gt (pe_op op_modN (pv 3) pe_int) pe_int (nomark _)) pa_nil)))))
      (Evl.pss_cut (ps_if (PW.pt (pw_and (pt_cmpR op_eq (pv 2) pe_int (nomark _)) (pw_and (pt_cmpR op_lt (pv 4) pe_int (nomark _)) (pw_and (pt_cmpR op_lt (pe_op op_modN (pv 3) pe_int) pe_int (nomark _)) (pw_and1 (pt_cmpR op_ge (pv 10) pe_int (nomark _))))))) (pss_one (ps_ret (pe_tup (pa_cons (pe_tup (pa_cons pe_str (pa_cons (pe_ix ix_list (pk0 k__law_times hr (by decide) rfl pass0) (pv 4) (fun _ _ => rfl)) (pa_cons (pv 10) (pa_cons pe_bl pa_nil))))) (pa_cons pe_int pa_nil))))) pss_nil)
      (Evl.pss_cut (ps_if (PW.pt (pw_and (pt_cmpR op_eq (pv 2) pe_int (nomark _)) (pw_and (pt_cmpR op_lt (pv 3) pe_int (nomark _)) (pw_and1 (pt_cmpR op_ge (pv 10) pe_int (nomark _)))))) (pss_one (ps_ret (pe_tup (pa_cons (pe_tup (pa_cons pe_str (pa_cons (pv 10) (pa_cons pe_bl pa_nil)))) (pa_cons pe_int pa_nil))))) pss_nil)
      (pss_cons (ps_if (pt_cmpR op_eq (pe_op op_add (pv 1) pe_int) (pe_callB call_len rfl g_len boot_len (pa_cons (pv 0) pa_nil)) (nomark _)) (pss_one (ps_ret pe_non)) pss_nil)
      (Evl.pss_cut (ps_if (PW.pt (pw_and (pt_cmpR op_eq (pv 2) pe_int (nomark _)) (pw_and (pt_cmpR op_lt (pv 4) pe_int (nomark _)) (pw_and1 (pt_cmpR op_eq (pe_op op_modN (pv 3) pe_int) pe_int (nomark _)))))) (pss_one (ps_ret (pe_tup (pa_cons (pe_tup (pa_cons pe_str (pa_cons (pe_ix ix_list (pk0 k__law_times hr (by decide) rfl pass0) (pv 4) (fun _ _ => rfl)) (pa_cons (pe_ix ix_seq (pv 0) (pe_op op_add (pv 1) pe_int) (fun _ _ => rfl)) (pa_cons pe_bl pa_nil))))) (pa_cons pe_int pa_nil))))) pss_nil)
      (pss_one (ps_ret (pe_ifExp (PW.pt (pw_and (pt_cmpR op_eq (pv 2) pe_int (nomark _)) (pw_and1 (pt_cmpR op_eq (pv 3) pe_int (nomark _))))) (pe_tup (pa_cons (pe_tup (pa_cons pe_str (pa_cons (pe_ix ix_seq (pv 0) (pe_op op_add (pv 1) pe_int) (fun _ _ => rfl)) (pa_cons pe_bl pa_nil)))) (pa_cons pe_int pa_nil))) pe_non)))))))))))))), ?_⟩
    have hx : ws[p]? = some ws[p] := List.getElem?_eq_getElem hp
    obtain ⟨x0, x1⟩ := hw _ (List.getElem_mem hp)
    generalize ws[p] = x at hx x0 x1
    have hxv : (vInts ws)[p]? = some (.int x) := by
      rw [vInts, List.getElem?_map, hx]
      rfl
    refine ⟨_, rfl, _, rfl, rix_seq hS (atI_nat hxv) ?_⟩
    refine ⟨_, _, rfl, ⟨by decide, by decide⟩, fun pt hpt => ?_⟩
    have s1 : Same H (upd H pt (.tup [.int (x / 4096), .int (x % 4096)])) := Same.add hpt
    have e1 : (upd H pt (.tup [.int (x / 4096), .int (x % 4096)])) pt = some (.tup [.int (x / 4096), .int (x % 4096)]) := upd_same
    generalize upd H pt (.tup [.int (x / 4096), .int (x % 4096)]) = H1 at s1 e1 ⊢
    refine ⟨pt, _, rfl, SqT.of e1, rfl, _, _, rfl, _, _, rfl, rfl, ?_⟩
    refine ⟨fun σ H' => Same H H' ∧ σ = [some (.ref a), some (.int (p : Nat)), some (.int (x / 4096)), some (.int (x % 4096)), some (.int ((x % 4096).fdiv 512)), some (.int (((x % 4096).fdiv 64).fmod 8)), some (.int (((x % 4096).fdiv 8).fmod 8)), some (.int ((x % 4096).fmod 8)), none, none, none], ?_, ?_⟩
    · refine ⟨_, rfl, _, _, rfl, rfl, ⟨by decide, by decide⟩, _, rfl, _, _, rfl, rfl, ⟨by decide, by decide⟩, _, _, rfl, rfl, (show (8 : Int) ≠ 0 by decide), _, rfl, _, _, rfl, rfl, ⟨by decide, by decide⟩, _, _, rfl, rfl, (show (8 : Int) ≠ 0 by decide), _, rfl, _, _, rfl, rfl, (show (8 : Int) ≠ 0 by decide), line5 (by simp), fun p4 hp4 => ?_⟩
      exact ⟨p4, _, rfl, SqT.of upd_same, rfl, _, _, rfl, _, _, rfl, _, _, rfl, _, _, rfl, rfl, Same.trans s1 (Same.add hp4), rfl⟩
    · rintro σ H2 ⟨s2, rfl⟩
      have dv : ∀ (y k : Int), 0 ≤ k → y.fdiv k = y / k := fun y k h => Int.fdiv_eq_ediv_of_nonneg y h
      have md : ∀ (y k : Int), 0 ≤ k → y.fmod k = y % k := fun y k h => Int.fmod_eq_emod_of_nonneg y h
      rw [dv _ 512 (by decide), dv _ 64 (by decide), dv _ 8 (by decide), md _ 8 (by decide), md _ 8 (by decide), md _ 8 (by decide)]
      have m64 := md (x % 4096) 64 (by decide)
      have m512 := md (x % 4096) 512 (by decide)
      have m32 := md (x % 4096) 32 (by decide)
      have hno : ∀ {d : De}, IsAt ws p d → (∃ y, d.words p = [x, y] ∧ ws[p + 1]? = some y) ∨ d.words p = [x] := fun h => at_words h hx
      refine ⟨_, rfl, rfl, _, rfl, ?_⟩
      by_cases c0 : x / 4096 = 0
      · rw [decide_eq_true (congrArg V.int c0)]
        have nope : (0 < x % 4096 % 64 ∨ x % 4096 / 512 = 7 ∨ (x % 4096 / 512 < 3 ∧ 0 < x % 4096 / 64 % 8)) → ∀ d, ¬ IsAt ws p d := fun hc d hd => by
          rcases at_form hd hx with ⟨k, h⟩ | ⟨k, b, h⟩ | h | ⟨b, n, h⟩ | h | ⟨k, g, h1, h2, h3, h4⟩ | ⟨k, h⟩ | ⟨g, h2, h3, h4⟩ | h <;> omega
        obtain ⟨k, hk⟩ : ∃ k : Nat, x % 4096 / 512 = (k : Int) := ⟨(x % 4096 / 512).toNat, by omega⟩
        have k8 : k < 8 := by omega
        obtain ⟨na1, na2, na3⟩ := none_at k k8
        rw [hk]
        refine iteT ⟨rfl, fun p1 H3 hp1 s3 e3 => ⟨line5 (by simp), fun p2 hp2 => ?_⟩⟩
        have s4 : Same H3 (upd H3 p2 (.lst [.str "none"])) := Same.add hp2
        have e4 : (upd H3 p2 (.lst [.str "none"])) p2 = some (.lst [.str "none"]) := upd_same
        generalize upd H3 p2 (.lst [.str "none"]) = H4 at s4 e4 ⊢
        refine ⟨_, _, _, _, rfl, rfl, s4 _ _ e3, e4, line5 (by decide), fun p3 hp3 => ?_⟩
        rw [show SG.map V.str ++ [.str "none"] = (SG ++ (["none"] : List Str)).map V.str from rfl]
        have s5 : Same H4 (upd H4 p3 (.lst ((SG ++ (["none"] : List Str)).map V.str))) := Same.add hp3
        have e5 : (upd H4 p3 (.lst ((SG ++ (["none"] : List Str)).map V.str))) p3 = some (.lst ((SG ++ (["none"] : List Str)).map V.str)) := upd_same
        generalize upd H4 p3 (.lst ((SG ++ (["none"] : List Str)).map V.str)) = H5 at s5 e5 ⊢
        have s25 := Same.trans s2 (Same.trans s3 (Same.trans s4 s5))
        refine ⟨_, rfl, _, _, _, _, rfl, rfl, SqL.of e5, atI_nat na1, ?_⟩
        refine ⟨_, rfl, _, _, rfl, rfl, (show (64 : Int) ≠ 0 by decide), _, _, rfl, rfl, _, rfl, ?_⟩
        by_cases z1 : 0 < x % 4096 % 64
        · rw [decide_eq_true (show 0 < (x % 4096).fmod 64 by rw [m64]; exact z1)]
          exact iteT (q2 (nope (.inl z1)) H5 s25)
        rw [decide_eq_false (show ¬ 0 < (x % 4096).fmod 64 by rw [m64]; exact z1)]
        refine iteF ⟨_, rfl, rfl, _, rfl, ?_⟩
        by_cases k7 : k = 7
        · rw [decide_eq_true (congrArg V.str (na2.mpr k7))]
          exact iteT (q2 (nope (.inr (.inl (by omega)))) H5 s25)
        rw [decide_eq_false (fun z => k7 (na2.mp (V.str.inj z)))]
        have en : nm (SG ++ (["none"] : List Str)) k = nm SG k := na3 (by omega)
        rw [en]
        refine iteF ⟨_, rfl, _, _, rfl, rfl, _, rfl, ?_⟩
        by_cases k3 : (k : Int) < 3
        · rw [decide_eq_true k3]
          refine iteT ⟨_, rfl, _, _, rfl, rfl, _, rfl, ?_⟩
          by_cases z2 : 0 < x % 4096 / 64 % 8
          · rw [decide_eq_true z2]
            exact iteT (q2 (nope (.inr (.inr ⟨by omega, z2⟩))) H5 s25)
          rw [decide_eq_false z2]
          refine iteF ⟨_, rfl, line5 (by simp), fun p6 hp6 => ?_⟩
          have s6 : Same H5 (upd H5 p6 (.tup [.str (nm SG k)])) := Same.add hp6
          have e6 : (upd H5 p6 (.tup [.str (nm SG k)])) p6 = some (.tup [.str (nm SG k)]) := upd_same
          generalize upd H5 p6 (.tup [.str (nm SG k)]) = H6 at s6 e6 ⊢
          refine ⟨_, rfl, _, _, rfl, rfl, _, rfl, ?_⟩
          rw [decide_eq_true k3]
          refine iteT ⟨line5 (by simp), fun p7 hp7 => ?_⟩
          have s7 : Same H6 (upd H6 p7 (.tup [])) := Same.add hp7
          have e7 : (upd H6 p7 (.tup [])) p7 = some (.tup []) := upd_same
          generalize upd H6 p7 (.tup []) = H7 at s7 e7 ⊢
          refine rcat (SqT.of (s7 _ _ e6)) (SqT.of e7) (by simp) fun pd H8 s8 hpd => ⟨line5 (by simp), fun r hr8 => ?_⟩
          exact q1 (.sgl k) r pd _ (is1 hx (show k < 3 by omega) True.intro (congrArg (fun z => [z]) (show (k : Int) * 512 = x by omega))) (Same.trans s25 (Same.trans s6 (Same.trans s7 (Same.trans s8 (Same.add hr8))))) (Same.tup (Same.add hr8) hpd) (SqT.of upd_same)
        rw [decide_eq_false k3]
        refine iteF ⟨_, rfl, line5 (by simp), fun p6 hp6 => ?_⟩
        have s6 : Same H5 (upd H5 p6 (.tup [.str (nm SG k)])) := Same.add hp6
        have e6 : (upd H5 p6 (.tup [.str (nm SG k)])) p6 = some (.tup [.str (nm SG k)]) := upd_same
        generalize upd H5 p6 (.tup [.str (nm SG k)]) = H6 at s6 e6 ⊢
        refine ⟨_, rfl, _, _, rfl, rfl, _, rfl, ?_⟩
        rw [decide_eq_false k3]
        refine iteF ⟨_, rfl, line5 (by simp), fun p7 hp7 => ?_⟩
        have s7 : Same H6 (upd H6 p7 (.tup [.int (x % 4096 / 64 % 8)])) := Same.add hp7
        have e7 : (upd H6 p7 (.tup [.int (x % 4096 / 64 % 8)])) p7 = some (.tup [.int (x % 4096 / 64 % 8)]) := upd_same
        generalize upd H6 p7 (.tup [.int (x % 4096 / 64 % 8)]) = H7 at s7 e7 ⊢
        refine rcat (SqT.of (s7 _ _ e6)) (SqT.of e7) (by simp) fun pd H8 s8 hpd => ⟨line5 (by simp), fun r hr8 => ?_⟩
        exact q1 (.reg k (x % 4096 / 64 % 8)) r pd _ (is1 hx ⟨by omega, by omega, by unfold r3; omega⟩ True.intro (congrArg (fun z => [z]) (show (k : Int) * 512 + x % 4096 / 64 % 8 * 64 = x by omega))) (Same.trans s25 (Same.trans s6 (Same.trans s7 (Same.trans s8 (Same.add hr8))))) (Same.tup (Same.add hr8) hpd) (SqT.of upd_same)
      rw [decide_eq_false (fun z => c0 (V.int.inj z))]
      refine iteF ⟨_, rfl, rfl, _, rfl, ?_⟩
      by_cases c1 : x / 4096 = 1
      · rw [decide_eq_true (congrArg V.int c1)]
        obtain ⟨k, hk⟩ : ∃ k : Nat, x % 4096 % 8 = (k : Int) := ⟨(x % 4096 % 8).toNat, by omega⟩
        have k8 : k < 8 := by omega
        have hat : (SM.map V.str)[k]? = some (.str (nm SM k)) := by
          rw [List.getElem?_map, (sm_at k k8).1]
          rfl
        rw [hk]
        refine iteT ⟨rfl, fun p1 H3 hp1 s3 e3 => ⟨_, rfl, _, _, _, _, rfl, rfl, SqL.of e3, atI_nat hat, _, rfl, _, rfl, _, rfl, line5 (by simp), fun pd hpd => ?_⟩⟩
        have s4 : Same H3 (upd H3 pd (.tup [.str (nm SM k), .int (x % 4096 / 512), .int (x % 4096 / 64 % 8), .int (x % 4096 / 8 % 8)])) := Same.add hpd
        have e4 : (upd H3 pd (.tup [.str (nm SM k), .int (x % 4096 / 512), .int (x % 4096 / 64 % 8), .int (x % 4096 / 8 % 8)])) pd = some (.tup [.str (nm SM k), .int (x % 4096 / 512), .int (x % 4096 / 64 % 8), .int (x % 4096 / 8 % 8)]) := upd_same
        generalize upd H3 pd (.tup [.str (nm SM k), .int (x % 4096 / 512), .int (x % 4096 / 64 % 8), .int (x % 4096 / 8 % 8)]) = H4 at s4 e4 ⊢
        refine ⟨line5 (by simp), fun r hr8 => ?_⟩
        exact q1 (.sum k (x % 4096 / 512) (x % 4096 / 64 % 8) (x % 4096 / 8 % 8)) r pd _ (is1 hx ⟨k8, by unfold r3; omega, by unfold r3; omega, by unfold r3; omega⟩ True.intro (congrArg (fun z => [z]) (show 4096 + x % 4096 / 512 * 512 + x % 4096 / 64 % 8 * 64 + x % 4096 / 8 % 8 * 8 + (k : Int) = x by omega))) (Same.trans s2 (Same.trans s3 (Same.trans s4 (Same.add hr8)))) (SqT.of (Same.add hr8 _ _ e4)) (SqT.of upd_same)
      rw [decide_eq_false (fun z => c1 (V.int.inj z))]
      refine iteF ⟨_, rfl, line5 (by simp), fun p5 hp5 => ?_⟩
      have s3 : Same H2 (upd H2 p5 (.tup [.int 2, .int 5, .int 6])) := Same.add hp5
      have e3 : (upd H2 p5 (.tup [.int 2, .int 5, .int 6])) p5 = some (.tup [.int 2, .int 5, .int 6]) := upd_same
      generalize upd H2 p5 (.tup [.int 2, .int 5, .int 6]) = H3 at s3 e3 ⊢
      refine ⟨_, _, rfl, .inr (SqT.of e3), rfl, rfl, _, rfl, ?_⟩
      by_cases c2 : x / 4096 = 2
      · have xc : x = 8192 + x % 4096 := by omega
        rw [c2]
        show if inV (.int 2) [.int 2, .int 5, .int 6] = true then _ else _
        rw [show inV (.int 2) [.int 2, .int 5, .int 6] = true by decide +kernel]
        refine iteT ⟨_, rfl, _, _, rfl, rfl, (show (64 : Int) ≠ 0 by decide), _, rfl, rfl, _, rfl, ?_⟩
        rw [show decide (V.int 2 = V.int 2) = true by decide +kernel]
        refine iteT ⟨_, rfl, _, _, rfl, rfl, (show (64 : Int) ≠ 0 by decide), _, _, rfl, rfl, .inr ⟨_, rfl, _, _, rfl, rfl, .inl ⟨by decide, by decide⟩, _, _, rfl, rfl, ?_⟩⟩
        refine ⟨line5 (by simp), fun pa hpa => ?_⟩
        have s4 : Same H3 (upd H3 pa (.lst [.str "plus", .str "load", .str "store"])) := Same.add hpa
        have e4 : (upd H3 pa (.lst [.str "plus", .str "load", .str "store"])) pa = some (.lst [.str "plus", .str "load", .str "store"]) := upd_same
        generalize upd H3 pa (.lst [.str "plus", .str "load", .str "store"]) = H4 at s4 e4 ⊢
        refine ⟨line5 (by simp), fun pb hpb => ?_⟩
        have s5 : Same H4 (upd H4 pb (.lst [.int 2, .int 5, .int 6])) := Same.add hpb
        have e5 : (upd H4 pb (.lst [.int 2, .int 5, .int 6])) pb = some (.lst [.int 2, .int 5, .int 6]) := upd_same
        generalize upd H4 pb (.lst [.int 2, .int 5, .int 6]) = H5 at s5 e5 ⊢
        refine ⟨.inl ⟨rfl, _, SqL.of e5⟩, _, rfl, pb, [.int 2, .int 5, .int 6], .int 2, 0, .int 2, rfl, rfl, SqL.of e5, rfl, rfl, rfl, rfl, fun m z hm hz => ?_, ?_⟩
        · have : m = 0 ∨ m = 1 := by omega
          rcases this with rfl | rfl
          · cases hz
            first | rfl | omega
          · cases hz
            first | rfl | omega
        refine ⟨_, _, _, _, rfl, rfl, SqL.of (s5 _ _ e4), atI_nat (j := 0) rfl, _, rfl, _, rfl, _, rfl, line5 (by simp), fun pd hpd => ⟨line5 (by simp), fun r hr8 => ?_⟩⟩
        have hb : -32 ≤ ((x % 4096).fmod 64 - 64 * (if decide (31 < (x % 4096).fmod 64) = true then 1 else 0)) ∧ ((x % 4096).fmod 64 - 64 * (if decide (31 < (x % 4096).fmod 64) = true then 1 else 0)) ≤ 31 ∧ ((x % 4096).fmod 64 - 64 * (if decide (31 < (x % 4096).fmod 64) = true then 1 else 0)) % 64 = x % 4096 % 64 := by
          rw [m64]
          by_cases c : 31 < x % 4096 % 64
          · rw [decide_eq_true c, if_pos rfl]
            omega
          · rw [decide_eq_false c, if_neg (by decide)]
            omega
        have s35 := Same.trans s2 (Same.trans s3 (Same.trans s4 s5))
        exact q1 (.plus (x % 4096 / 512) (x % 4096 / 64 % 8) ((x % 4096).fmod 64 - 64 * (if decide (31 < (x % 4096).fmod 64) = true then 1 else 0))) r pd _ (is1 hx ⟨by unfold r3; omega, by unfold r3; omega, hb.1, hb.2.1⟩ True.intro (congrArg (fun z => [z]) (show 8192 + x % 4096 / 512 * 512 + x % 4096 / 64 % 8 * 64 + ((x % 4096).fmod 64 - 64 * (if decide (31 < (x % 4096).fmod 64) = true then 1 else 0)) % 64 = x by rw [hb.2.2]; omega))) (Same.trans s35 (Same.trans (Same.add hpd) (Same.add hr8))) (SqT.of (Same.add hr8 _ _ upd_same)) (SqT.of upd_same)
      by_cases c5 : x / 4096 = 5
      · have xc : x = 20480 + x % 4096 := by omega
        rw [c5]
        show if inV (.int 5) [.int 2, .int 5, .int 6] = true then _ else _
        rw [show inV (.int 5) [.int 2, .int 5, .int 6] = true by decide +kernel]
        refine iteT ⟨_, rfl, _, _, rfl, rfl, (show (64 : Int) ≠ 0 by decide), _, rfl, rfl, _, rfl, ?_⟩
        rw [show decide (V.int 5 = V.int 2) = false by decide +kernel]
        refine iteF (.inr ⟨_, rfl, _, _, rfl, rfl, .inl ⟨by decide, by decide⟩, _, _, rfl, rfl, ?_⟩)
        refine ⟨line5 (by simp), fun pa hpa => ?_⟩
        have s4 : Same H3 (upd H3 pa (.lst [.str "plus", .str "load", .str "store"])) := Same.add hpa
        have e4 : (upd H3 pa (.lst [.str "plus", .str "load", .str "store"])) pa = some (.lst [.str "plus", .str "load", .str "store"]) := upd_same
        generalize upd H3 pa (.lst [.str "plus", .str "load", .str "store"]) = H4 at s4 e4 ⊢
        refine ⟨line5 (by simp), fun pb hpb => ?_⟩
        have s5 : Same H4 (upd H4 pb (.lst [.int 2, .int 5, .int 6])) := Same.add hpb
        have e5 : (upd H4 pb (.lst [.int 2, .int 5, .int 6])) pb = some (.lst [.int 2, .int 5, .int 6]) := upd_same
        generalize upd H4 pb (.lst [.int 2, .int 5, .int 6]) = H5 at s5 e5 ⊢
        refine ⟨.inl ⟨rfl, _, SqL.of e5⟩, _, rfl, pb, [.int 2, .int 5, .int 6], .int 5, 1, .int 5, rfl, rfl, SqL.of e5, rfl, rfl, rfl, rfl, fun m z hm hz => ?_, ?_⟩
        · have : m = 0 ∨ m = 1 := by omega
          rcases this with rfl | rfl
          · cases hz
            first | rfl | omega
          · cases hz
            first | rfl | omega
        refine ⟨_, _, _, _, rfl, rfl, SqL.of (s5 _ _ e4), atI_nat (j := 1) rfl, _, rfl, _, rfl, _, rfl, line5 (by simp), fun pd hpd => ⟨line5 (by simp), fun r hr8 => ?_⟩⟩
        have hb : 0 ≤ ((x % 4096).fmod 64 - 64 * (if false = true then 1 else 0)) ∧ ((x % 4096).fmod 64 - 64 * (if false = true then 1 else 0)) ≤ 63 ∧ ((x % 4096).fmod 64 - 64 * (if false = true then 1 else 0)) = x % 4096 % 64 := by
          rw [m64, if_neg (by decide)]
          omega
        have s35 := Same.trans s2 (Same.trans s3 (Same.trans s4 s5))
        exact q1 (.load (x % 4096 / 512) (x % 4096 / 64 % 8) ((x % 4096).fmod 64 - 64 * (if false = true then 1 else 0))) r pd _ (is1 hx ⟨by unfold r3; omega, by unfold r3; omega, hb.1, hb.2.1⟩ True.intro (congrArg (fun z => [z]) (show 20480 + x % 4096 / 512 * 512 + x % 4096 / 64 % 8 * 64 + ((x % 4096).fmod 64 - 64 * (if false = true then 1 else 0)) = x by rw [hb.2.2]; omega))) (Same.trans s35 (Same.trans (Same.add hpd) (Same.add hr8))) (SqT.of (Same.add hr8 _ _ upd_same)) (SqT.of upd_same)
      by_cases c6 : x / 4096 = 6
      · have xc : x = 24576 + x % 4096 := by omega
        rw [c6]
        show if inV (.int 6) [.int 2, .int 5, .int 6] = true then _ else _
        rw [show inV (.int 6) [.int 2, .int 5, .int 6] = true by decide +kernel]
        refine iteT ⟨_, rfl, _, _, rfl, rfl, (show (64 : Int) ≠ 0 by decide), _, rfl, rfl, _, rfl, ?_⟩
        rw [show decide (V.int 6 = V.int 2) = false by decide +kernel]
        refine iteF (.inr ⟨_, rfl, _, _, rfl, rfl, .inl ⟨by decide, by decide⟩, _, _, rfl, rfl, ?_⟩)
        refine ⟨line5 (by simp), fun pa hpa => ?_⟩
        have s4 : Same H3 (upd H3 pa (.lst [.str "plus", .str "load", .str "store"])) := Same.add hpa
        have e4 : (upd H3 pa (.lst [.str "plus", .str "load", .str "store"])) pa = some (.lst [.str "plus", .str "load", .str "store"]) := upd_same
        generalize upd H3 pa (.lst [.str "plus", .str "load", .str "store"]) = H4 at s4 e4 ⊢
        refine ⟨line5 (by simp), fun pb hpb => ?_⟩
        have s5 : Same H4 (upd H4 pb (.lst [.int 2, .int 5, .int 6])) := Same.add hpb
        have e5 : (upd H4 pb (.lst [.int 2, .int 5, .int 6])) pb = some (.lst [.int 2, .int 5, .int 6]) := upd_same
        generalize upd H4 pb (.lst [.int 2, .int 5, .int 6]) = H5 at s5 e5 ⊢
        refine ⟨.inl ⟨rfl, _, SqL.of e5⟩, _, rfl, pb, [.int 2, .int 5, .int 6], .int 6, 2, .int 6, rfl, rfl, SqL.of e5, rfl, rfl, rfl, rfl, fun m z hm hz => ?_, ?_⟩
        · have : m = 0 ∨ m = 1 := by omega
          rcases this with rfl | rfl
          · cases hz
            first | rfl | omega
          · cases hz
            first | rfl | omega
        refine ⟨_, _, _, _, rfl, rfl, SqL.of (s5 _ _ e4), atI_nat (j := 2) rfl, _, rfl, _, rfl, _, rfl, line5 (by simp), fun pd hpd => ⟨line5 (by simp), fun r hr8 => ?_⟩⟩
        have hb : 0 ≤ ((x % 4096).fmod 64 - 64 * (if false = true then 1 else 0)) ∧ ((x % 4096).fmod 64 - 64 * (if false = true then 1 else 0)) ≤ 63 ∧ ((x % 4096).fmod 64 - 64 * (if false = true then 1 else 0)) = x % 4096 % 64 := by
          rw [m64, if_neg (by decide)]
          omega
        have s35 := Same.trans s2 (Same.trans s3 (Same.trans s4 s5))
        exact q1 (.store (x % 4096 / 512) (x % 4096 / 64 % 8) ((x % 4096).fmod 64 - 64 * (if false = true then 1 else 0))) r pd _ (is1 hx ⟨by unfold r3; omega, by unfold r3; omega, hb.1, hb.2.1⟩ True.intro (congrArg (fun z => [z]) (show 24576 + x % 4096 / 512 * 512 + x % 4096 / 64 % 8 * 64 + ((x % 4096).fmod 64 - 64 * (if false = true then 1 else 0)) = x by rw [hb.2.2]; omega))) (Same.trans s35 (Same.trans (Same.add hpd) (Same.add hr8))) (SqT.of (Same.add hr8 _ _ upd_same)) (SqT.of upd_same)
      have ni : inV (.int (x / 4096)) [.int 2, .int 5, .int 6] = false := by
        show (((2 : Int) == x / 4096) || (((5 : Int) == x / 4096) || (((6 : Int) == x / 4096) || false))) = false
        rw [beq_eq_false_iff_ne.mpr (Ne.symm c2), beq_eq_false_iff_ne.mpr (Ne.symm c5), beq_eq_false_iff_ne.mpr (Ne.symm c6)]
        rfl
      show if inV (.int (x / 4096)) [.int 2, .int 5, .int 6] = true then _ else _
      rw [ni]
      refine iteF ⟨fun σ H' => Same H H' ∧ σ = [some (.ref a), some (.int (p : Nat)), some (.int (x / 4096)), some (.int (x % 4096)), some (.int (x % 4096 / 512)), some (.int (x % 4096 / 64 % 8)), some (.int (x % 4096 / 8 % 8)), some (.int (x % 4096 % 8)), none, none, none] ∧ x / 4096 ≠ 3 ∧ ¬ (x / 4096 = 4 ∧ x % 4096 % 512 < 128), ?_, ?_⟩
      · refine ⟨_, rfl, rfl, _, rfl, ?_⟩
        by_cases c3 : x / 4096 = 3
        · have xc : x = 12288 + x % 4096 := by omega
          rw [c3]
          rw [show decide (V.int 3 = V.int 3) = true by decide +kernel]
          refine iteT ⟨line5 (by simp), fun pa hpa => ?_⟩
          have s4 : Same H3 (upd H3 pa (.lst [.str "set", .str "high"])) := Same.add hpa
          have e4 : (upd H3 pa (.lst [.str "set", .str "high"])) pa = some (.lst [.str "set", .str "high"]) := upd_same
          generalize upd H3 pa (.lst [.str "set", .str "high"]) = H4 at s4 e4 ⊢
          refine ⟨_, rfl, _, _, rfl, rfl, _, _, _, _, rfl, rfl, SqL.of e4, (atI_nat (j := 0) rfl : atI [V.str "set", V.str "high"] (3 - 3) = some (V.str "set")), _, rfl, _, rfl, _, _, rfl, rfl, (show (512 : Int) ≠ 0 by decide), line5 (by simp), fun pd hpd => ⟨line5 (by simp), fun r hr8 => ?_⟩⟩
          exact q1 (.set (x % 4096 / 512) ((x % 4096).fmod 512)) r pd _ (is1 hx ⟨by unfold r3; omega, by omega, by omega⟩ True.intro (congrArg (fun z => [z]) (show 12288 + x % 4096 / 512 * 512 + (x % 4096).fmod 512 = x by omega))) (Same.trans s2 (Same.trans s3 (Same.trans s4 (Same.trans (Same.add hpd) (Same.add hr8))))) (SqT.of (Same.add hr8 _ _ upd_same)) (SqT.of upd_same)
        rw [decide_eq_false (fun z => c3 (V.int.inj z))]
        refine iteF ⟨_, rfl, rfl, _, rfl, ?_⟩
        by_cases c4 : x / 4096 = 4
        · have xc : x = 16384 + x % 4096 := by omega
          rw [decide_eq_true (congrArg V.int c4)]
          refine iteT ⟨_, rfl, _, _, rfl, rfl, (show (512 : Int) ≠ 0 by decide), _, _, rfl, rfl, _, rfl, ?_⟩
          by_cases c8 : (x % 4096).fmod 512 < 128
          · rw [decide_eq_true c8, c4]
            refine iteT ⟨line5 (by simp), fun pa hpa => ?_⟩
            have s4 : Same H3 (upd H3 pa (.lst [.str "set", .str "high"])) := Same.add hpa
            have e4 : (upd H3 pa (.lst [.str "set", .str "high"])) pa = some (.lst [.str "set", .str "high"]) := upd_same
            generalize upd H3 pa (.lst [.str "set", .str "high"]) = H4 at s4 e4 ⊢
            refine ⟨_, rfl, _, _, rfl, rfl, _, _, _, _, rfl, rfl, SqL.of e4, (atI_nat (j := 1) rfl : atI [V.str "set", V.str "high"] (4 - 3) = some (V.str "high")), _, rfl, _, rfl, _, _, rfl, rfl, (show (512 : Int) ≠ 0 by decide), line5 (by simp), fun pd hpd => ⟨line5 (by simp), fun r hr8 => ?_⟩⟩
            exact q1 (.high (x % 4096 / 512) ((x % 4096).fmod 512)) r pd _ (is1 hx ⟨by unfold r3; omega, by omega, by omega⟩ True.intro (congrArg (fun z => [z]) (show 16384 + x % 4096 / 512 * 512 + (x % 4096).fmod 512 = x by omega))) (Same.trans s2 (Same.trans s3 (Same.trans s4 (Same.trans (Same.add hpd) (Same.add hr8))))) (SqT.of (Same.add hr8 _ _ upd_same)) (SqT.of upd_same)
          rw [decide_eq_false c8]
          exact iteF ⟨Same.trans s2 s3, rfl, c3, fun z => c8 (by rw [m512]; exact z.2)⟩
        rw [decide_eq_false (fun z => c4 (V.int.inj z))]
        exact iteF ⟨Same.trans s2 s3, rfl, c3, fun z => c4 z.1⟩
      clear s2 s3 e3 hp5
      rintro σ H4 ⟨s4, rfl, c3, c4⟩
      refine ⟨_, rfl, _, _, rfl, rfl, _, rfl, _, _, rfl, rfl, (show (32 : Int) ≠ 0 by decide), _, _, rfl, rfl, _, rfl, _, _, rfl, rfl, (show (32 : Int) ≠ 0 by decide), _, _, rfl, rfl, .inr ⟨_, rfl, _, _, rfl, rfl, .inl ⟨by decide, by decide⟩, _, _, rfl, rfl, ?_⟩⟩
      have hn : near ((p : Int) + 1 + (x % 4096).fmod 32 - 32 * (if decide (15 < (x % 4096).fmod 32) = true then 1 else 0)) p ∧ (((p : Int) + 1 + (x % 4096).fmod 32 - 32 * (if decide (15 < (x % 4096).fmod 32) = true then 1 else 0)) - (p : Int) - 1) % 32 = x % 32 := by
        unfold near
        rw [m32]
        by_cases c : 15 < x % 4096 % 32
        · rw [decide_eq_true c, if_pos rfl]
          omega
        · rw [decide_eq_false c, if_neg (by decide)]
          omega
      have hn2 : -16 ≤ ((p : Int) + 1 + (x % 4096).fmod 32 - 32 * (if decide (15 < (x % 4096).fmod 32) = true then 1 else 0)) - (p : Int) - 1 ∧ ((p : Int) + 1 + (x % 4096).fmod 32 - 32 * (if decide (15 < (x % 4096).fmod 32) = true then 1 else 0)) - (p : Int) - 1 ≤ 15 := hn.1
      obtain ⟨k, hk⟩ : ∃ k : Nat, x % 4096 / 512 = (k : Int) := ⟨(x % 4096 / 512).toNat, by omega⟩
      have hat : k < 7 → (TM.map V.str)[k]? = some (.str (nm TM k)) := fun h => by
        rw [List.getElem?_map, (tm_at k h).1]
        rfl
      refine ⟨fun σ H' => Same H H' ∧ σ = [some (.ref a), some (.int (p : Nat)), some (.int (x / 4096)), some (.int (x % 4096)), some (.int (x % 4096 / 512)), some (.int (x % 4096 / 64 % 8)), some (.int (x % 4096 / 8 % 8)), some (.int (x % 4096 % 8)), none, none, some (.int ((p : Int) + 1 + (x % 4096).fmod 32 - 32 * (if decide (15 < (x % 4096).fmod 32) = true then 1 else 0)))] ∧ ¬ (x / 4096 = 7 ∧ x % 4096 / 512 < 7 ∧ x % 4096 % 512 < 32 ∧ 0 ≤ ((p : Int) + 1 + (x % 4096).fmod 32 - 32 * (if decide (15 < (x % 4096).fmod 32) = true then 1 else 0))), ?_, ?_⟩
      · refine ⟨_, rfl, rfl, _, rfl, ?_⟩
        by_cases c7 : x / 4096 = 7
        · rw [decide_eq_true (congrArg V.int c7)]
          refine iteT ⟨_, rfl, _, _, rfl, rfl, _, rfl, ?_⟩
          by_cases d7 : x % 4096 / 512 < 7
          · rw [decide_eq_true d7]
            refine iteT ⟨_, rfl, _, _, rfl, rfl, (show (512 : Int) ≠ 0 by decide), _, _, rfl, rfl, _, rfl, ?_⟩
            by_cases e7 : (x % 4096).fmod 512 < 32
            · rw [decide_eq_true e7]
              refine iteT ⟨_, rfl, _, _, rfl, rfl, _, rfl, ?_⟩
              by_cases g7 : 0 ≤ ((p : Int) + 1 + (x % 4096).fmod 32 - 32 * (if decide (15 < (x % 4096).fmod 32) = true then 1 else 0))
              · show if decide (0 ≤ ((p : Int) + 1 + (x % 4096).fmod 32 - 32 * (if decide (15 < (x % 4096).fmod 32) = true then 1 else 0))) = true then _ else _
                rw [decide_eq_true g7, hk]
                refine iteT ⟨rfl, fun pt H5 hpt s5 e5 => ⟨_, rfl, _, _, _, _, rfl, rfl, SqL.of e5, atI_nat (hat (by omega)), _, rfl, line5 (by simp), fun pd hpd => ⟨line5 (by simp), fun r hr8 => ?_⟩⟩⟩
                exact q1 (.jump k ((p : Int) + 1 + (x % 4096).fmod 32 - 32 * (if decide (15 < (x % 4096).fmod 32) = true then 1 else 0)) false) r pd _ (is1 hx ⟨by omega, by omega, by omega⟩ hn.1 (congrArg (fun z => [z]) (show 28672 + (k : Int) * 512 + (((p : Int) + 1 + (x % 4096).fmod 32 - 32 * (if decide (15 < (x % 4096).fmod 32) = true then 1 else 0)) - (p : Int) - 1) % 32 = x by rw [hn.2]; omega))) (Same.trans s4 (Same.trans s5 (Same.trans (Same.add hpd) (Same.add hr8)))) (SqT.of (Same.add hr8 _ _ upd_same)) (SqT.of upd_same)
              · show if decide (0 ≤ ((p : Int) + 1 + (x % 4096).fmod 32 - 32 * (if decide (15 < (x % 4096).fmod 32) = true then 1 else 0))) = true then _ else _
                rw [decide_eq_false g7]
                exact iteF ⟨s4, rfl, fun z => g7 z.2.2.2⟩
            · rw [decide_eq_false e7]
              exact iteF ⟨s4, rfl, fun z => e7 (by rw [m512]; exact z.2.2.1)⟩
          · rw [decide_eq_false d7]
            exact iteF ⟨s4, rfl, fun z => d7 z.2.1⟩
        · rw [decide_eq_false (fun z => c7 (V.int.inj z))]
          exact iteF ⟨s4, rfl, fun z => c7 z.1⟩
      clear s4
      rintro σ H5 ⟨s5, rfl, c7⟩
      refine ⟨fun σ H' => Same H H' ∧ σ = [some (.ref a), some (.int (p : Nat)), some (.int (x / 4096)), some (.int (x % 4096)), some (.int (x % 4096 / 512)), some (.int (x % 4096 / 64 % 8)), some (.int (x % 4096 / 8 % 8)), some (.int (x % 4096 % 8)), none, none, some (.int ((p : Int) + 1 + (x % 4096).fmod 32 - 32 * (if decide (15 < (x % 4096).fmod 32) = true then 1 else 0)))] ∧ ¬ (x / 4096 = 9 ∧ x % 4096 < 32 ∧ 0 ≤ ((p : Int) + 1 + (x % 4096).fmod 32 - 32 * (if decide (15 < (x % 4096).fmod 32) = true then 1 else 0))), ?_, ?_⟩
      · refine ⟨_, rfl, rfl, _, rfl, ?_⟩
        by_cases c9 : x / 4096 = 9
        · rw [decide_eq_true (congrArg V.int c9)]
          refine iteT ⟨_, rfl, _, _, rfl, rfl, _, rfl, ?_⟩
          by_cases d9 : x % 4096 < 32
          · rw [decide_eq_true d9]
            refine iteT ⟨_, rfl, _, _, rfl, rfl, _, rfl, ?_⟩
            by_cases g9 : 0 ≤ ((p : Int) + 1 + (x % 4096).fmod 32 - 32 * (if decide (15 < (x % 4096).fmod 32) = true then 1 else 0))
            · show if decide (0 ≤ ((p : Int) + 1 + (x % 4096).fmod 32 - 32 * (if decide (15 < (x % 4096).fmod 32) = true then 1 else 0))) = true then _ else _
              rw [decide_eq_true g9]
              refine iteT ⟨_, rfl, line5 (by simp), fun pd hpd => ⟨line5 (by simp), fun r hr8 => ?_⟩⟩
              exact q1 (.call ((p : Int) + 1 + (x % 4096).fmod 32 - 32 * (if decide (15 < (x % 4096).fmod 32) = true then 1 else 0)) false) r pd _ (is1 hx ⟨by omega, by omega⟩ hn.1 (congrArg (fun z => [z]) (show 36864 + (((p : Int) + 1 + (x % 4096).fmod 32 - 32 * (if decide (15 < (x % 4096).fmod 32) = true then 1 else 0)) - (p : Int) - 1) % 32 = x by rw [hn.2]; omega))) (Same.trans s5 (Same.trans (Same.add hpd) (Same.add hr8))) (SqT.of (Same.add hr8 _ _ upd_same)) (SqT.of upd_same)
            · show if decide (0 ≤ ((p : Int) + 1 + (x % 4096).fmod 32 - 32 * (if decide (15 < (x % 4096).fmod 32) = true then 1 else 0))) = true then _ else _
              rw [decide_eq_false g9]
              exact iteF ⟨s5, rfl, fun z => g9 z.2.2⟩
          · rw [decide_eq_false d9]
            exact iteF ⟨s5, rfl, fun z => d9 z.2.1⟩
        · rw [decide_eq_false (fun z => c9 (V.int.inj z))]
          exact iteF ⟨s5, rfl, fun z => c9 z.1⟩
      clear s5
      rintro σ H6 ⟨s6, rfl, c9⟩
      have hS6 := seq_same s6 hS
      have hlenv : LenV K (.ref a) H6 (vInts ws).length := by
        rcases hS6 with h | h
        · exact .inl ⟨_, h, rfl⟩
        · exact .inr ⟨_, h, rfl⟩
      refine ⟨_, rfl, _, _, rfl, rfl, _, rfl, _, _, rfl, hlenv, rfl, _, rfl, ?_⟩
      have ell : (vInts ws).length = ws.length := List.length_map ..
      have nope : (∀ k : Nat, k < 7 → x = 32768 + k * 512 → p + 1 < ws.length → False) → (x = 40960 → p + 1 < ws.length → False) → ∀ d, ¬ IsAt ws p d := fun h1 h2 => at_none hx c0 c1 c2 c3 c4 c5 c6 hn.1 hn.2 c7 c9 h1 h2
      by_cases cl : (p : Int) + 1 = ((vInts ws).length : Nat)
      · rw [decide_eq_true (congrArg V.int cl)]
        have hle : ¬ p + 1 < ws.length := by rw [ell] at cl; clear hn hn2 c7 c9; omega
        exact iteT (q2 (nope (fun k _ _ h => hle h) (fun _ h => hle h)) H6 s6)
      rw [decide_eq_false (fun z => cl (V.int.inj z))]
      have hp1 : p + 1 < ws.length := by rw [ell] at cl; clear hn hn2 c7 c9 nope; omega
      have hy : ws[p + 1]? = some ws[p + 1] := List.getElem?_eq_getElem hp1
      obtain ⟨y0, y1⟩ := hw _ (List.getElem_mem hp1)
      generalize ws[p + 1] = y at hy y0 y1
      have hyv : (vInts ws)[p + 1]? = some (.int y) := by
        rw [vInts, List.getElem?_map, hy]
        rfl
      have hya : atI (vInts ws) ((p : Int) + 1) = some (.int y) := atI_nat (j := p + 1) hyv
      refine iteF ⟨fun σ H' => Same H H' ∧ σ = [some (.ref a), some (.int (p : Nat)), some (.int (x / 4096)), some (.int (x % 4096)), some (.int (x % 4096 / 512)), some (.int (x % 4096 / 64 % 8)), some (.int (x % 4096 / 8 % 8)), some (.int (x % 4096 % 8)), none, none, some (.int ((p : Int) + 1 + (x % 4096).fmod 32 - 32 * (if decide (15 < (x % 4096).fmod 32) = true then 1 else 0)))] ∧ ¬ (x / 4096 = 8 ∧ x % 4096 / 512 < 7 ∧ x % 4096 % 512 = 0), ?_, ?_⟩
      · refine ⟨_, rfl, rfl, _, rfl, ?_⟩
        by_cases c8 : x / 4096 = 8
        · rw [decide_eq_true (congrArg V.int c8)]
          refine iteT ⟨_, rfl, _, _, rfl, rfl, _, rfl, ?_⟩
          by_cases d8 : x % 4096 / 512 < 7
          · rw [decide_eq_true d8]
            refine iteT ⟨_, rfl, _, _, rfl, rfl, (show (512 : Int) ≠ 0 by decide), rfl, _, rfl, ?_⟩
            by_cases e8 : (x % 4096).fmod 512 = 0
            · rw [decide_eq_true (congrArg V.int e8), hk]
              refine iteT ⟨rfl, fun pt H7 hpt s7 e7 => ⟨_, rfl, _, _, _, _, rfl, rfl, SqL.of e7, atI_nat (hat (by omega)), _, rfl, _, rfl, _, _, rfl, rfl, rix_seq (seq_same s7 hS6) hya ⟨line5 (by simp), fun pd hpd => ⟨line5 (by simp), fun r hr8 => ?_⟩⟩⟩⟩
              exact q1 (.jump k y true) r pd _ (is2 hx hy ⟨by omega, by omega, by omega⟩ True.intro (congrArg (fun z => [z, y]) (show 32768 + (k : Int) * 512 = x by omega))) (Same.trans s6 (Same.trans s7 (Same.trans (Same.add hpd) (Same.add hr8)))) (SqT.of (Same.add hr8 _ _ upd_same)) (SqT.of upd_same)
            · rw [decide_eq_false (fun z => e8 (V.int.inj z))]
              exact iteF ⟨s6, rfl, fun z => e8 (by rw [m512]; exact z.2.2)⟩
          · rw [decide_eq_false d8]
            exact iteF ⟨s6, rfl, fun z => d8 z.2.1⟩
        · rw [decide_eq_false (fun z => c8 (V.int.inj z))]
          exact iteF ⟨s6, rfl, fun z => c8 z.1⟩
      clear s6 hS6 hlenv
      rintro σ H7 ⟨s7, rfl, c8⟩
      have none1 : ¬ (x / 4096 = 10 ∧ x % 4096 = 0) → ∀ d, ¬ IsAt ws p d := fun hc => nope (fun k h1 h2 _ => c8 ⟨by clear hn hn2 c7 c9; omega, by clear hn hn2 c7 c9; omega, by clear hn hn2 c7 c9; omega⟩) (fun h _ => hc ⟨by clear hn hn2 c7 c9; omega, by clear hn hn2 c7 c9; omega⟩)
      refine ⟨_, rfl, rfl, _, rfl, ?_⟩
      by_cases ca : x / 4096 = 10
      · rw [decide_eq_true (congrArg V.int ca)]
        refine iteT ⟨_, rfl, rfl, _, rfl, ?_⟩
        by_cases cb : x % 4096 = 0
        · rw [decide_eq_true (congrArg V.int cb)]
          refine iteT ⟨_, rfl, _, rfl, _, _, rfl, rfl, rix_seq (seq_same s7 hS) hya ⟨line5 (by simp), fun pd hpd => ⟨line5 (by simp), fun r hr8 => ?_⟩⟩⟩
          exact q1 (.call y true) r pd _ (is2 hx hy ⟨by omega, by omega⟩ True.intro (congrArg (fun z => [z, y]) (show 40960 = x by omega))) (Same.trans s7 (Same.trans (Same.add hpd) (Same.add hr8))) (SqT.of (Same.add hr8 _ _ upd_same)) (SqT.of upd_same)
        · rw [decide_eq_false (fun z => cb (V.int.inj z))]
          exact iteF (q2 (none1 fun z => cb z.2) H7 s7)
      · rw [decide_eq_false (fun z => ca (V.int.inj z))]
        exact iteF (q2 (none1 fun z => ca z.1) H7 s7)
end
end Bm
set_option maxHeartbeats 1000000
namespace Bm
open PySem PySem.Spec PyProof.Rows L2
theorem asg_of {t : TE} {g : TG} {D : Ends} {σ : L2.St} {H : Hp} {R : V → Hp → Prop} (h : ∀ kk : VK, (∀ v H', R v H' → kk v H') → t σ H kk) (q : ∀ v H', R v H' → g v σ H' fun σ2 H2 => D.nx σ2 H2) : tAsg t g D σ H := h _ q
theorem inV2 (z a b : Str) : inV (.str z) [.str a, .str b] = decide (z = a ∨ z = b) := by
  show inV (.str z) ([a, b].map V.str) = _
  rw [inV_strs, Bool.eq_iff_iff]
  simp only [List.any_cons, List.any_nil, Bool.or_false, Bool.or_eq_true, beq_iff_eq, decide_eq_true_eq]
  exact ⟨fun h => h.imp Eq.symm Eq.symm, fun h => h.imp Eq.symm Eq.symm⟩
theorem hin5 {a : Int} {gs : List Int} {m : MS} : (De.reg 5 a).hin gs m = if m.p.length = 16 then ("full" : Str) else "" := rfl
theorem hin6 {a : Int} {gs : List Int} {m : MS} : (De.reg 6 a).hin gs m = if m.p.length = 0 then ("empty" : Str) else "" := rfl
theorem hin2 {gs : List Int} {m : MS} : (De.sgl 2).hin gs m = if m.k.length = 0 then ("empty" : Str) else "" := rfl
theorem hinC {g : Int} {far : Bool} {gs : List Int} {m : MS} : (De.call g far).hin gs m = if m.k.length = 16 then ("full" : Str) else "" := rfl
/-- why not, as the law keeps it -/
def kvS (A F : Str) : List (Key × V) := [(.inr "halt", .str "halt"), (.inr "ask", .str A), (.inr "push", .str F)]
def kvT (F E : Str) : List (Key × V) := [(.inr "call", .str F), (.inr "pop", .str E)]
def kvF (A F E : Str) : List (Key × V) := [(.inr "halt", .str "halt"), (.inr "ask", .str A), (.inr "push", .str F), (.inr "call", .str F), (.inr "pop", .str E), (.inr "back", .str E)]
theorem kvS_m {A F : Str} : mergeK [] (kvS A F) = kvS A F := by kernel_rfl
theorem kvT_m {F E : Str} : mergeK [] (kvT F E) = kvT F E := by kernel_rfl
theorem kvF_m {A F E : Str} : putK (mergeK (kvS A F) (kvT F E)) (.inr "back") (.str E) = kvF A F E := by kernel_rfl
theorem kvS_p {A F : Str} : valV (kvS A F) (.inr "push") = some (.str F) := by kernel_rfl
theorem kvM_p {A F E : Str} : valV (mergeK (kvS A F) (kvT F E)) (.inr "pop") = some (.str E) := by kernel_rfl
theorem kvM_l {A F E : Str} : (mergeK (kvS A F) (kvT F E)).length = 5 := by kernel_rfl
theorem kvF_1 {A F E : Str} : valV (kvF A F E) (.inr "halt") = some (.str "halt") := by kernel_rfl
theorem kvF_2 {A F E : Str} : valV (kvF A F E) (.inr "ask") = some (.str A) := by kernel_rfl
theorem kvF_3 {A F E : Str} : valV (kvF A F E) (.inr "push") = some (.str F) := by kernel_rfl
theorem kvF_4 {A F E : Str} : valV (kvF A F E) (.inr "call") = some (.str F) := by kernel_rfl
theorem kvF_5 {A F E : Str} : valV (kvF A F E) (.inr "pop") = some (.str E) := by kernel_rfl
theorem kvF_6 {A F E : Str} : valV (kvF A F E) (.inr "back") = some (.str E) := by kernel_rfl
theorem kvF_0 {A F E z : Str} (h1 : z ≠ "halt") (h2 : z ≠ "ask") (h3 : z ≠ "push") (h4 : z ≠ "call") (h5 : z ≠ "pop") (h6 : z ≠ "back") : valV (kvF A F E) (.inr z) = none := by
  have n : ∀ {a : Str}, z ≠ a → decide ((Sum.inr a : Key) = Sum.inr z) = false := fun h => decide_eq_false (fun e => h (Sum.inr.inj e).symm)
  unfold valV kvF
  simp only [List.find?_cons, n h1, n h2, n h3, n h4, n h5, n h6, List.find?_nil, Option.map_none]
section
variable {P : Program} {w : World} {K : PySem.W.Frag} {mg : Str → Option Value} {base : Heap} {f : Addr} {fd : FuncData} {dvs : List V}
abbrev KnLAt (P : Program) (w : World) (K : PySem.W.Frag) (mg : Str → Option Value) (base : Heap) : Prop := Kn P w K mg base CX0 2 "_law_deed_at" ["_law_image_here", "_law_place"] [] (spLAt K)
/-! _law_stopped -/
def spStp (K : PySem.W.Frag) : Sp := fun vs H Q _ => ∃ (B : Lx) (ws gs : List Int) (m : MS), vs = [.ref B.M] ∧ LAt K H ws gs B m ∧ m.Ok gs ∧ wsOk ws ∧ ws.length ≤ 200 ∧ ∀ H', Same H H' → Q (.str (hind ws gs m)) H'
abbrev N__law_stopped : List Str := ["_law_m", "_law_told", "_law_word", "_law_full", "_law_stops"]
theorem sc__law_stopped : FnScope ["_law_m", "_law_told", "_law_word", "_law_full", "_law_stops"] ["_law_m"] (defScope s__law_stopped) := ⟨rfl, rfl, rfl, by decide +kernel, rfl, by decide +kernel, by decide +kernel⟩
theorem ok_stopped (F : FnP K "_law_stopped" s__law_stopped dvs f fd) (k__law_deed_at : KnLAt P w K mg base) (g_len : mg "len" = none) : FnOk P w K mg base CX0 3 f fd ["_law_m"] (spStp K) := by
  refine F.ok sc__law_stopped (fun vs H Q E h => ?_) (fun cdv A outer s H vs Q E hr h => ?_)
  · obtain ⟨B, ws, gs, m, rfl, _⟩ := h
    rfl
  · obtain ⟨B, ws, gs, m, rfl, hl, ok, hw, hws, q⟩ := h
    refine ⟨_, PSs.nox (pss_cons (ps_if (pt_cmpR op_ge (pe_dget (hu_of hr) (pv 0) pe_str (fun _ _ => rfl)) (pe_callB call_len rfl g_len boot_len (pa_cons (pe_dget (hu_of hr) (pv 0) pe_str (fun _ _ => rfl)) pa_nil)) (nomark _)) (pss_one (ps_ret pe_str)) pss_nil)
      (pss_cons (ps_set (i := 1) sc__law_stopped.nd rfl (Or.inl rfl) (pk k__law_deed_at hr (by decide) rfl pass0 (pa_cons (pe_dget (hu_of hr) (pv 0) pe_str (fun _ _ => rfl)) (pa_cons (pe_dget (hu_of hr) (pv 0) pe_str (fun _ _ => rfl)) pa_nil))))
      (pss_cons (ps_if (pt_cmpR op_isN (pv 1) pe_non (nomark _)) (pss_one (ps_ret pe_str)) pss_nil)
      (pss_cons (ps_set (i := 2) sc__law_stopped.nd rfl (Or.inl rfl) (pe_ix ix_tup (pe_ix ix_tup (pv 1) pe_int (fun _ _ => rfl)) pe_int (fun _ _ => rfl)))
      (pss_cons (ps_set (i := 3) sc__law_stopped.nd rfl (Or.inl rfl) (pe_callB call_len rfl g_len boot_len (pa_cons (pe_ifExp (pt_cmpR op_in_seq (pv 2) (pe_tup (pa_cons pe_str (pa_cons pe_str pa_nil))) rfl) (pe_dget (hu_of hr) (pv 0) pe_str (fun _ _ => rfl)) (pe_dget (hu_of hr) (pv 0) pe_str (fun _ _ => rfl))) pa_nil)))
      (pss_cons (ps_set (i := 4) sc__law_stopped.nd rfl (Or.inl rfl) (pe_disp (L2.pps_cons pe_str pe_str (L2.pps_cons pe_str (pe_ifExp (pt_cmpR op_eq (pe_dget (hu_of hr) (pv 0) pe_str (fun _ _ => rfl)) (pe_callB call_len rfl g_len boot_len (pa_cons (pe_dget (hu_of hr) (pv 0) pe_str (fun _ _ => rfl)) pa_nil)) (nomark _)) pe_str pe_str) (L2.pps_cons pe_str (pe_ifExp (pt_cmpR op_gt (pv 3) pe_int (nomark _)) pe_str pe_str) L2.pps_nil))) rfl rfl (fun z => by cases z) (by decide)))
      (pss_cons (ps_expr (pe_bm PySem.F.plainAttrs_dict PySem.F.slot_dict_update PySem.F.type_dict_update mt_dupd (pv 4) (pa_cons (pe_disp (L2.pps_cons pe_str (pe_dget (hu_of hr) (pv 4) pe_str (fun _ _ => rfl)) (L2.pps_cons pe_str (pe_ifExp (pt_cmpR op_eq (pv 3) pe_int (nomark _)) pe_str pe_str) L2.pps_nil)) rfl rfl (fun z => by cases z) (by decide)) pa_nil)))
      (pss_cons (ps_asg (pe_dget (hu_of hr) (pv 4) pe_str (fun _ _ => rfl)) (pg_sub (pv 4) pe_str (set_dict (hu_of hr))))
      (pss_one (ps_ret (pe_dget2 (hu_of hr) (pv 4) (pv 2) pe_str ⟨rfl, rfl, rfl, rfl⟩))))))))))), ?_⟩
    obtain ⟨f0, hM, hf, _⟩ := hl.d
    have hg : hind ws gs m = if ws.length ≤ m.g then ("beyond" : Str) else match atD ws m.g with
      | none => "none"
      | some d => d.hin gs m := rfl
    refine ⟨_, rfl, B.M, _, rfl, dg hM q_pl, _, rfl, B.M, _, rfl, dg hM q_im, _, _, rfl, .inr ⟨_, hl.i, rfl⟩, _, _, rfl, rfl, _, rfl, pick (p := ws.length ≤ m.g) (c := decide (((vInts ws).length : Int) ≤ (m.g : Nat))) (by rw [ints_len]; exact decide_eq_decide.mpr (by omega)) (fun c0 => ?_) (fun c0 => ?_)⟩
    · rw [hg, if_pos c0] at q
      exact q H (Same.refl H)
    rw [if_neg c0] at hg
    refine ⟨_, rfl, B.M, _, rfl, dg hM q_im, _, rfl, B.M, _, rfl, dg hM q_pl, B.i, ws, m.g, rfl, .inr hl.i, by omega, hw, by omega, fun d r pd H1 hat s1 hpd hr2 => ?_, fun hno H1 s1 => ?_⟩
    · rw [atD_some hat] at hg
      have hg : hind ws gs m = d.hin gs m := hg
      have dok := hat.1
      refine ⟨_, rfl, rfl, _, rfl, it0 (c := decide (V.ref r = V.non)) (decide_eq_false (fun z => by cases z)) ?_⟩
      obtain ⟨z, rr, ev, _⟩ := vals_code dok
      have hat0 : atI d.vals 0 = some (.str z) := by rw [ev]; exact at0
      refine ⟨_, rfl, r, _, _, _, rfl, rfl, hr2, at0, pd, _, _, _, rfl, rfl, hpd, hat0, ?_⟩
      have hl1 := hl.same s1
      have hM1 := s1 _ _ hM
      have hz0 := inV2 z "call" "back"
      obtain ⟨fv, hfv⟩ : ∃ fv : Nat, fv = if z = "call" ∨ z = "back" then m.k.length else m.p.length := ⟨_, rfl⟩
      dsimp only [gName, List.set]
      unfold tSeq
      refine asg_of (R := fun v H' => v = .int (fv : Nat) ∧ Same H1 H') (fun kk q0 => ?_) ?_
      · refine ⟨_, rfl, line5 (by simp), fun tp htp => ?_⟩
        have s2 : Same H1 (upd H1 tp (.tup [.str "call", .str "back"])) := Same.add htp
        have e2 : (upd H1 tp (.tup [.str "call", .str "back"])) tp = some (.tup [.str "call", .str "back"]) := upd_same
        generalize upd H1 tp (.tup [.str "call", .str "back"]) = H2 at s2 e2 ⊢
        have hl2 := hl1.same s2
        refine ⟨_, _, rfl, .inr (SqT.of e2), rfl, rfl, _, rfl, pick (p := z = "call" ∨ z = "back") hz0 (fun c => ?_) (fun c => ?_)⟩
        · rw [if_pos c] at hfv
          refine ⟨_, rfl, B.M, _, rfl, dg (s2 _ _ hM1) q_ca, _, _, rfl, .inl ⟨_, SqL.of hl2.k, rfl⟩, ?_⟩
          exact q0 _ _ ⟨by rw [ints_len, hfv], s2⟩
        · rw [if_neg c] at hfv
          refine ⟨_, rfl, B.M, _, rfl, dg (s2 _ _ hM1) q_pi, _, _, rfl, .inl ⟨_, SqL.of hl2.p, rfl⟩, ?_⟩
          exact q0 _ _ ⟨by rw [ints_len, hfv], s2⟩
      rintro v H2 ⟨rfl, s2⟩
      have hl2 := hl1.same s2
      have hM2 := s2 _ _ hM1
      obtain ⟨TA, hA⟩ : ∃ x : Str, x = if m.a = gs.length then ("asks" : Str) else "" := ⟨_, rfl⟩
      obtain ⟨TF, hF⟩ : ∃ x : Str, x = if 15 < fv then ("full" : Str) else "" := ⟨_, rfl⟩
      obtain ⟨TE_, hE⟩ : ∃ x : Str, x = if fv = 0 then ("empty" : Str) else "" := ⟨_, rfl⟩
      dsimp only [gName, List.set]
      refine asg_of (R := fun v H' => ∃ ps : Addr, v = .ref ps ∧ Same H2 H' ∧ H2 ps = none ∧ H' ps = some (.dK (kvS TA TF))) (fun kk q0 => ?_) ?_
      · refine fun ps hps => ?_
        have fin : ∀ (x y : Str), x = TA → y = TF → upd H2 ps (.dK []) ps = some (.dK []) ∧ ∃ kvs : List (Key × V), [(V.str "halt", V.str "halt"), (V.str "ask", V.str x), (V.str "push", V.str y)] = kvs.map (fun kv => (kV kv.1, kv.2)) ∧ kvs.length ≤ 15 ∧ kk (.ref ps) (upd (upd H2 ps (.dK [])) ps (.dK (mergeK [] kvs))) := fun x y ex ey => by
          subst ex ey
          refine ⟨upd_same, kvS x y, rfl, Nat.le_of_ble_eq_true rfl, ?_⟩
          rw [upd_upd, kvS_m]
          exact q0 _ _ ⟨ps, rfl, Same.add hps, hps, upd_same⟩
        have hMp := Same.add (o := .dK []) hps _ _ hM2
        have hlp := hl2.same (Same.add (o := .dK []) hps)
        have tail : ∀ x : Str, x = TA → if decide (15 < (fv : Int)) = true then _ else _ := fun x ex => pick (p := 15 < fv) (decide_eq_decide.mpr (by omega)) (fun c => fin x _ ex (by rw [hF, if_pos c])) (fun c => fin x _ ex (by rw [hF, if_neg c]))
        refine ⟨_, rfl, B.M, _, rfl, dg hMp q_us, _, rfl, B.M, _, rfl, dg hMp q_gi, _, _, rfl, .inl ⟨_, SqL.of hlp.g, rfl⟩, rfl, _, rfl, pick (p := m.a = gs.length) (c := decide (V.int (m.a : Nat) = V.int ((vInts gs).length : Nat))) (by rw [dec_nat, ints_len]) (fun c => ?_) (fun c => ?_)⟩
        · exact ⟨_, rfl, _, _, rfl, rfl, _, rfl, tail _ (by rw [hA, if_pos c])⟩
        · exact ⟨_, rfl, _, _, rfl, rfl, _, rfl, tail _ (by rw [hA, if_neg c])⟩
      rintro v H3 ⟨ps, rfl, s3, hps, h3⟩
      dsimp only [gName, List.set]
      refine ⟨_, rfl, .inr (.inr (.inl ⟨rfl, .inl ⟨_, h3⟩⟩)), fun pt hpt => ?_⟩
      have nt : pt ≠ ps := fun y => by
        rw [y, h3] at hpt
        cases hpt
      have h3t := Same.add (o := .dK []) hpt _ _ h3
      refine ⟨_, rfl, ps, _, rfl, dg h3t kvS_p, ?_⟩
      have end2 : ∀ H5 : Hp, Same H H5 → ∀ o, o = valV (kvF TA TF TE_) (.inr z) → Q (o.getD (.str "")) H5 := fun H5 s5 o ho => by
        have qq : ∀ v : V, v = .str (hind ws gs m) → Q v H5 := fun v e => by rw [e]; exact q H5 s5
        have k16 := ok.k16
        have p16 := ok.p16
        rcases hin_cl (gs := gs) (m := m) dok with rfl | ⟨a, rfl⟩ | ⟨a, rfl⟩ | ⟨g, far, rfl⟩ | ⟨a, rfl⟩ | rfl | ⟨⟨z', rr', ev', k1, k2, k3, k4, k5, k6⟩, hn⟩
        · obtain rfl : z = "halt" := (V.str.inj (List.cons.inj ev).1).symm
          rw [ho, kvF_1]
          exact qq _ (by rw [hg]; rfl)
        · obtain rfl : z = "ask" := (V.str.inj (List.cons.inj ev).1).symm
          rw [ho, kvF_2]
          refine qq _ ?_
          rw [hg, hA]
          rfl
        · obtain rfl : z = "push" := (V.str.inj (List.cons.inj ev).1).symm
          rw [if_neg (by decide +kernel)] at hfv
          rw [ho, kvF_3]
          refine qq _ (congrArg V.str ?_)
          rw [hg, hF, hfv]
          rw [hin5]
          by_cases c : m.p.length = 16
          · rw [if_pos c, if_pos (by omega)]
          · rw [if_neg c, if_neg (by omega)]
        · obtain rfl : z = "call" := (V.str.inj (List.cons.inj ev).1).symm
          rw [if_pos (.inl rfl)] at hfv
          rw [ho, kvF_4]
          refine qq _ (congrArg V.str ?_)
          rw [hg, hF, hfv]
          rw [hinC]
          by_cases c : m.k.length = 16
          · rw [if_pos c, if_pos (by omega)]
          · rw [if_neg c, if_neg (by omega)]
        · obtain rfl : z = "pop" := (V.str.inj (List.cons.inj ev).1).symm
          rw [if_neg (by decide +kernel)] at hfv
          rw [ho, kvF_5]
          refine qq _ (congrArg V.str ?_)
          rw [hg, hE, hfv]
          rw [hin6]
        · obtain rfl : z = "back" := (V.str.inj (List.cons.inj ev).1).symm
          rw [if_pos (.inr rfl)] at hfv
          rw [ho, kvF_6]
          refine qq _ (congrArg V.str ?_)
          rw [hg, hE, hfv]
          rw [hin2]
        · rw [ev] at ev'
          obtain rfl : z = z' := V.str.inj (List.cons.inj ev').1
          rw [ho, kvF_0 k1 k2 k3 k4 k5 k6]
          exact qq _ (by rw [hg, hn]; rfl)
      by_cases c : fv = 0
      · obtain rfl : TE_ = "empty" := by rw [hE, if_pos c]
        refine ⟨_, rfl, rfl, _, rfl, it1 (c := decide (V.int (fv : Nat) = V.int (0 : Nat))) (dec_nat.trans (decide_eq_true c)) ⟨upd_same, kvT TF "empty", rfl, Nat.le_of_ble_eq_true rfl, ?_⟩⟩
        rw [upd_upd, kvT_m]
        have s4 : Same H3 (upd H3 pt (.dK (kvT TF "empty"))) := Same.add hpt
        have e4 : (upd H3 pt (.dK (kvT TF "empty"))) pt = some (.dK (kvT TF "empty")) := upd_same
        generalize upd H3 pt (.dK (kvT TF "empty")) = H4 at s4 e4 ⊢
        refine ⟨ps, pt, kvS TA TF, kvT TF "empty", rfl, rfl, nt.symm, s4 _ _ h3, e4, Nat.le_of_ble_eq_true rfl, ?_⟩
        refine ⟨_, rfl, ps, _, rfl, dg upd_same kvM_p, _, rfl, ps, _, rfl, dp upd_same (by rw [kvM_l]; decide) kvF_m, ?_⟩
        refine ⟨_, rfl, ps, rfl, .inl ⟨_, .inl upd_same⟩, _, rfl, _, DGet.k (k := .inr z) upd_same, ?_⟩
        exact end2 _ (Same.trans s1 (Same.trans s2 (same_mut (same_mut (Same.trans s3 s4) hps) hps))) _ rfl
      · obtain rfl : TE_ = "" := by rw [hE, if_neg c]
        refine ⟨_, rfl, rfl, _, rfl, it0 (c := decide (V.int (fv : Nat) = V.int (0 : Nat))) (dec_nat.trans (decide_eq_false c)) ⟨upd_same, kvT TF "", rfl, Nat.le_of_ble_eq_true rfl, ?_⟩⟩
        rw [upd_upd, kvT_m]
        have s4 : Same H3 (upd H3 pt (.dK (kvT TF ""))) := Same.add hpt
        have e4 : (upd H3 pt (.dK (kvT TF ""))) pt = some (.dK (kvT TF "")) := upd_same
        generalize upd H3 pt (.dK (kvT TF "")) = H4 at s4 e4 ⊢
        refine ⟨ps, pt, kvS TA TF, kvT TF "", rfl, rfl, nt.symm, s4 _ _ h3, e4, Nat.le_of_ble_eq_true rfl, ?_⟩
        refine ⟨_, rfl, ps, _, rfl, dg upd_same kvM_p, _, rfl, ps, _, rfl, dp upd_same (by rw [kvM_l]; decide) kvF_m, ?_⟩
        refine ⟨_, rfl, ps, rfl, .inl ⟨_, .inl upd_same⟩, _, rfl, _, DGet.k (k := .inr z) upd_same, ?_⟩
        exact end2 _ (Same.trans s1 (Same.trans s2 (same_mut (same_mut (Same.trans s3 s4) hps) hps))) _ rfl
    · rw [atD_none hno] at hg
      rw [hg] at q
      exact ⟨_, rfl, rfl, _, rfl, it1 (c := decide (V.non = V.non)) (decide_eq_true rfl) (q H1 s1)⟩
abbrev KnStp (P : Program) (w : World) (K : PySem.W.Frag) (mg : Str → Option Value) (base : Heap) : Prop := Kn P w K mg base CX0 3 "_law_stopped" ["_law_m"] [] (spStp K)
end
end Bm
set_option maxHeartbeats 1000000
namespace Bm
open PySem PySem.Spec PyProof.Rows L2
def De.moves : De → Prop
  | .sgl k => k = 2
  | .reg _ _ => True
  | .jump _ _ _ => True
  | .call _ _ => True
  | _ => False
theorem last_at {l : List Int} (h : l.length ≠ 0) : (vInts l)[(vInts l).length - 1]? = some (.int (l.getLastD 0)) := by
  have hl : l ≠ [] := fun z => h (by rw [z]; rfl)
  rw [ints_len]
  unfold vInts
  rw [List.getElem?_map, ← List.getLast?_eq_getElem?, List.getLastD_eq_getLast?, List.getLast?_eq_some_getLast hl]
  rfl
theorem ints_drop (l : List Int) : (vInts l).dropLast = vInts l.dropLast := List.map_dropLast.symm
section
variable {P : Program} {w : World} {K : PySem.W.Frag} {mg : Str → Option Value} {base : Heap} {f : Addr} {fd : FuncData} {dvs : List V}
/-! _law_moves -/
def spMov (K : PySem.W.Frag) : Sp := fun vs H Q _ => ∃ (B : Lx) (ws gs : List Int) (m : MS) (d : De) (z : Str) (xs : List V) (rest : Addr), vs = [.ref B.M, .str z, .ref rest] ∧ d.vals = .str z :: xs ∧ SqT K H rest xs ∧ LAt K H ws gs B m ∧ m.Ok gs ∧ d.ok ∧ d.hin gs m = "" ∧ d.moves ∧ m.s.length < 50000 ∧ ∀ H', Lv B H H' → LAt K H' ws gs B (d.act gs m) → Q .non H'
abbrev N__law_moves : List Str := ["_law_m", "_law_word", "_law_rest", "_law_zero", "_law_carry", "_law_minus", "_law_times_here"]
theorem sc__law_moves : FnScope ["_law_m", "_law_word", "_law_rest", "_law_zero", "_law_carry", "_law_minus", "_law_times_here"] ["_law_m", "_law_word", "_law_rest"] (defScope s__law_moves) := ⟨rfl, rfl, rfl, by decide +kernel, rfl, by decide +kernel, by decide +kernel⟩
theorem ok_moves (F : FnP K "_law_moves" s__law_moves dvs f fd) (k__law_times : KnNm P w K mg base "_law_times" TM) : FnOk P w K mg base CX0 2 f fd ["_law_m", "_law_word", "_law_rest"] (spMov K) := by
  refine F.ok sc__law_moves (fun vs H Q E h => ?_) (fun cdv A outer s H vs Q E hr h => ?_)
  · obtain ⟨B, ws, gs, m, d, z, xs, rest, rfl, _⟩ := h
    rfl
  · obtain ⟨B, ws, gs, m, d, z, xs, rest, rfl, ev, hS, hl, ok, dok, hh, hmv, hsl, q⟩ := h
    refine ⟨_, PSs.nox (pss_one (ps_if (pt_cmpR op_eq (pv 1) pe_str (nomark _)) (pss_one (ps_expr (pe_bm PySem.F.plainAttrs_list PySem.F.slot_list_append PySem.F.type_list_append mt_append (pe_dget (hu_of hr) (pv 0) pe_str (fun _ _ => rfl)) (pa_cons (pe_ix ix_list (pe_dget (hu_of hr) (pv 0) pe_str (fun _ _ => rfl)) (pe_ix ix_tup (pv 2) pe_int (fun _ _ => rfl)) (fun _ _ => rfl)) pa_nil)))) (pss_one (ps_if (pt_cmpR op_eq (pv 1) pe_str (nomark _)) (pss_one (ps_expr (pe_bm PySem.F.plainAttrs_list PySem.F.slot_list_append PySem.F.type_list_append mt_append (pe_dget (hu_of hr) (pv 0) pe_str (fun _ _ => rfl)) (pa_cons (pe_ix ix_list (pe_dget (hu_of hr) (pv 0) pe_str (fun _ _ => rfl)) (pe_ix ix_tup (pv 2) pe_int (fun _ _ => rfl)) (fun _ _ => rfl)) pa_nil)))) (pss_one (ps_if (pt_cmpR op_eq (pv 1) pe_str (nomark _)) (pss_one (ps_asg (pe_bm0 PySem.F.plainAttrs_list PySem.F.slot_list_pop PySem.F.type_list_pop mt_pop (pe_dget (hu_of hr) (pv 0) pe_str (fun _ _ => rfl))) (pg_sub (pe_dget (hu_of hr) (pv 0) pe_str (fun _ _ => rfl)) (pe_ix ix_tup (pv 2) pe_int (fun _ _ => rfl)) set_list))) (pss_one (ps_if (pt_cmpR op_eq (pv 1) pe_str (nomark _)) (pss_cons (ps_asg (pe_ix ix_list (pe_dget (hu_of hr) (pv 0) pe_str (fun _ _ => rfl)) (pe_dget (hu_of hr) (pv 0) pe_str (fun _ _ => rfl)) (fun _ _ => rfl)) (pg_sub (pe_dget (hu_of hr) (pv 0) pe_str (fun _ _ => rfl)) (pe_ix ix_tup (pv 2) pe_int (fun _ _ => rfl)) set_list))
      (pss_one (ps_asg (pe_op op_add (pe_dget (hu_of hr) (pv 0) pe_str (fun _ _ => rfl)) pe_int) (pg_sub (pv 0) pe_str (set_dict (hu_of hr)))))) (pss_one (ps_if (pt_cmpR op_eq (pv 1) pe_str (nomark _)) (pss_one (ps_asg (pe_bm0 PySem.F.plainAttrs_list PySem.F.slot_list_pop PySem.F.type_list_pop mt_pop (pe_dget (hu_of hr) (pv 0) pe_str (fun _ _ => rfl))) (pg_sub (pv 0) pe_str (set_dict (hu_of hr))))) (pss_one (ps_if (pt_cmpR op_eq (pv 1) pe_str (nomark _)) (pss_cons (ps_expr (pe_bm PySem.F.plainAttrs_list PySem.F.slot_list_append PySem.F.type_list_append mt_append (pe_dget (hu_of hr) (pv 0) pe_str (fun _ _ => rfl)) (pa_cons (pe_dget (hu_of hr) (pv 0) pe_str (fun _ _ => rfl)) pa_nil)))
      (pss_one (ps_asg (pe_ix ix_tup (pv 2) pe_int (fun _ _ => rfl)) (pg_sub (pv 0) pe_str (set_dict (hu_of hr)))))) (pss_cons (ps_asg (pe_dget (hu_of hr) (pv 0) pe_str (fun _ _ => rfl)) (pg_lst rfl (pgs_cons (pg_name (i := 3) sc__law_moves.nd rfl (Or.inl rfl)) (pgs_cons (pg_name (i := 4) sc__law_moves.nd rfl (Or.inl rfl)) (pgs_cons (pg_name (i := 5) sc__law_moves.nd rfl (Or.inl rfl)) pgs_nil)))))
      (pss_cons (ps_set (i := 6) sc__law_moves.nd rfl (Or.inl rfl) (pe_lst (pa_cons pe_bl (pa_cons (pv 3) (pa_cons (pe_not (pv 3)) (pa_cons (pv 4) (pa_cons (pe_not (pv 4)) (pa_cons (pv 5) (pa_cons (pe_not (pv 5)) pa_nil)))))))))
      (pss_one (ps_if (pt_val (pe_ix ix_list (pv 6) (pe_bm PySem.F.plainAttrs_list PySem.F.slot_list_index PySem.F.type_list_index mt_index (pk0 k__law_times hr (by decide) rfl pass0) (pa_cons (pe_ix ix_tup (pv 2) pe_int (fun _ _ => rfl)) pa_nil)) (fun _ _ => rfl))) (pss_one (ps_asg (pe_ix ix_tup (pv 2) pe_int (fun _ _ => rfl)) (pg_sub (pv 0) pe_str (set_dict (hu_of hr))))) pss_nil)))))))))))))))), ?_⟩
    obtain ⟨f0, hM, hf, f1, f2, f3, f4, f5, f6⟩ := hl.d
    have ne : ∀ {a b : Str}, a ≠ b → decide (V.str a = V.str b) = false := fun h => decide_eq_false (fun e => h (V.str.inj e))
    cases d with
    | sgl k =>
      obtain rfl : k = 2 := hmv
      obtain ⟨ez, rfl⟩ := List.cons.inj ev
      obtain rfl : z = "back" := (V.str.inj ez).symm
      refine ⟨_, rfl, rfl, _, rfl, it0 (c := decide (V.str "back" = V.str "say")) (ne (by decide +kernel)) ?_⟩
      refine ⟨_, rfl, rfl, _, rfl, it0 (c := decide (V.str "back" = V.str "push")) (ne (by decide +kernel)) ?_⟩
      refine ⟨_, rfl, rfl, _, rfl, it0 (c := decide (V.str "back" = V.str "pop")) (ne (by decide +kernel)) ?_⟩
      refine ⟨_, rfl, rfl, _, rfl, it0 (c := decide (V.str "back" = V.str "ask")) (ne (by decide +kernel)) ?_⟩
      refine ⟨_, rfl, rfl, _, rfl, it1 (c := decide (V.str "back" = V.str "back")) (decide_eq_true rfl) ?_⟩
      have hk := hin_back hh
      have hl0 : 0 ≤ m.k.getLastD 0 := by
        have hne : m.k ≠ [] := fun z => hk (by rw [z]; rfl)
        have e3 : m.k.getLastD 0 = m.k.getLast hne := by rw [List.getLastD_eq_getLast?, List.getLast?_eq_some_getLast hne]; rfl
        rw [e3]
        exact ok.kw _ (List.getLast_mem _)
      have e : (((m.k.getLastD 0).toNat : Nat) : Int) = m.k.getLastD 0 := Int.toNat_of_nonneg hl0
      refine ⟨_, rfl, B.M, _, rfl, dg hM q_ca, .inl ⟨rfl, _, SqL.of hl.k⟩, B.k, _, _, rfl, rfl, hl.k, last_at hk, ?_⟩
      rw [ints_drop]
      have h2 := hl.setK m.k.dropLast
      have hM2 := (upd_ne (H := H) (o := .lst (vInts m.k.dropLast)) (ne_dl hl.k hM).symm).trans hM
      have hf2 := (upd_ne (H := H) (o := .lst (vInts m.k.dropLast)) f4).trans hf
      have hv2 : Lv B H (upd H B.k (.lst (vInts m.k.dropLast))) := Lv.put (by simp)
      generalize upd H B.k (.lst (vInts m.k.dropLast)) = H2 at h2 hM2 hf2 hv2 ⊢
      refine ⟨_, rfl, B.M, _, rfl, dp hM2 kv_len s_pl, ?_⟩
      have h3 := h2.setD (m' := { m with g := (m.k.getLastD 0).toNat, k := m.k.dropLast }) hf2 ⟨f1, f2, f3, f4, f5, f6⟩ rfl rfl rfl rfl rfl
      dsimp only at h3
      rw [e] at h3
      exact q _ (hv2.trans (Lv.put (by simp))) h3
    | reg k a =>
      obtain ⟨ez, rfl⟩ := List.cons.inj ev
      obtain ⟨k3, k7, ha⟩ := dok
      have hc : k = 3 ∨ k = 4 ∨ k = 5 ∨ k = 6 := by omega
      rcases hc with rfl | rfl | rfl | rfl
      · obtain rfl : z = "say" := (V.str.inj ez).symm
        refine ⟨_, rfl, rfl, _, rfl, it1 (c := decide (V.str "say" = V.str "say")) (decide_eq_true rfl) ?_⟩
        refine ⟨_, rfl, B.M, _, rfl, dg hM q_to, .inl ⟨rfl, _, SqL.of hl.t⟩, _, rfl, B.M, _, rfl, dg hM q_re, _, rfl, rest, _, _, _, rfl, rfl, hS, at0, B.r, _, _, _, rfl, rfl, SqL.of hl.r, at_rg ok ha, B.t, _, _, rfl, rfl, hl.t, ?_, ?_⟩
        · rw [ints_len]
          exact line_lt' (by omega)
        · rw [ints_one]
          exact q _ (Lv.put (by simp)) (hl.setT _)
      · obtain rfl : z = "ask" := (V.str.inj ez).symm
        refine ⟨_, rfl, rfl, _, rfl, it0 (c := decide (V.str "ask" = V.str "say")) (ne (by decide +kernel)) ?_⟩
        refine ⟨_, rfl, rfl, _, rfl, it0 (c := decide (V.str "ask" = V.str "push")) (ne (by decide +kernel)) ?_⟩
        refine ⟨_, rfl, rfl, _, rfl, it0 (c := decide (V.str "ask" = V.str "pop")) (ne (by decide +kernel)) ?_⟩
        refine ⟨_, rfl, rfl, _, rfl, it1 (c := decide (V.str "ask" = V.str "ask")) (decide_eq_true rfl) ?_⟩
        have hg : m.a < gs.length := by
          have := ok.ga
          have n : m.a ≠ gs.length := fun z => by
            dsimp only [De.hin] at hh
            rw [if_pos rfl, if_pos z] at hh
            exact str_ne.2.2.1 hh
          omega
        have hgv : atI (vInts gs) (m.a : Nat) = some (.int (gs.getD m.a 0)) := by
          refine atI_nat ?_
          unfold vInts
          rw [List.getElem?_map, List.getElem?_eq_getElem hg, List.getD_eq_getElem?_getD, List.getElem?_eq_getElem hg]
          rfl
        have ha' : 0 ≤ a ∧ a ≤ 7 := ha
        refine ⟨_, rfl, B.M, _, rfl, dg hM q_gi, _, rfl, B.M, _, rfl, dg hM q_us, B.g, _, _, _, rfl, rfl, SqL.of hl.g, hgv, ?_⟩
        refine ⟨_, rfl, B.M, _, rfl, dg hM q_re, _, rfl, rest, _, _, _, rfl, rfl, hS, at0, B.r, _, _, _, rfl, rfl, hl.r, ixN_ofM ha'.1 (by rw [ints_len, ok.r8]; omega), ?_⟩
        rw [ints_set]
        have h2 := hl.setR (m.r.set a.toNat (gs.getD m.a 0))
        have hM2 := (upd_ne (H := H) (o := .lst (vInts (m.r.set a.toNat (gs.getD m.a 0)))) (ne_dl hl.r hM).symm).trans hM
        have hf2 := (upd_ne (H := H) (o := .lst (vInts (m.r.set a.toNat (gs.getD m.a 0)))) f1).trans hf
        have hv2 : Lv B H (upd H B.r (.lst (vInts (m.r.set a.toNat (gs.getD m.a 0))))) := Lv.put (by simp)
        generalize upd H B.r (.lst (vInts (m.r.set a.toNat (gs.getD m.a 0)))) = H2 at h2 hM2 hf2 hv2 ⊢
        refine ⟨_, rfl, B.M, _, rfl, dg hM2 q_us, _, _, rfl, rfl, _, rfl, B.M, _, rfl, dp hM2 kv_len s_us, ?_⟩
        exact q _ (hv2.trans (Lv.put (by simp))) (h2.setD (m' := { m with r := m.r.set a.toNat (gs.getD m.a 0), a := m.a + 1 }) hf2 ⟨f1, f2, f3, f4, f5, f6⟩ rfl rfl rfl rfl rfl)
      · obtain rfl : z = "push" := (V.str.inj ez).symm
        refine ⟨_, rfl, rfl, _, rfl, it0 (c := decide (V.str "push" = V.str "say")) (ne (by decide +kernel)) ?_⟩
        refine ⟨_, rfl, rfl, _, rfl, it1 (c := decide (V.str "push" = V.str "push")) (decide_eq_true rfl) ?_⟩
        refine ⟨_, rfl, B.M, _, rfl, dg hM q_pi, .inl ⟨rfl, _, SqL.of hl.p⟩, _, rfl, B.M, _, rfl, dg hM q_re, _, rfl, rest, _, _, _, rfl, rfl, hS, at0, B.r, _, _, _, rfl, rfl, SqL.of hl.r, at_rg ok ha, B.p, _, _, rfl, rfl, hl.p, ?_, ?_⟩
        · rw [ints_len]
          exact line_lt' (by have := ok.p16; omega)
        · rw [ints_one]
          exact q _ (Lv.put (by simp)) (hl.setP _)
      · obtain rfl : z = "pop" := (V.str.inj ez).symm
        refine ⟨_, rfl, rfl, _, rfl, it0 (c := decide (V.str "pop" = V.str "say")) (ne (by decide +kernel)) ?_⟩
        refine ⟨_, rfl, rfl, _, rfl, it0 (c := decide (V.str "pop" = V.str "push")) (ne (by decide +kernel)) ?_⟩
        refine ⟨_, rfl, rfl, _, rfl, it1 (c := decide (V.str "pop" = V.str "pop")) (decide_eq_true rfl) ?_⟩
        have hk : m.p.length ≠ 0 := fun z => by
          dsimp only [De.hin] at hh
          rw [if_neg (by decide), if_neg (by decide), if_pos rfl, if_pos z] at hh
          exact str_ne.2.1 hh
        have ha' : 0 ≤ a ∧ a ≤ 7 := ha
        refine ⟨_, rfl, B.M, _, rfl, dg hM q_pi, .inl ⟨rfl, _, SqL.of hl.p⟩, B.p, _, _, rfl, rfl, hl.p, last_at hk, ?_⟩
        rw [ints_drop]
        have h2 := hl.setP m.p.dropLast
        have hM2 := (upd_ne (H := H) (o := .lst (vInts m.p.dropLast)) (ne_dl hl.p hM).symm).trans hM
        have hv2 : Lv B H (upd H B.p (.lst (vInts m.p.dropLast))) := Lv.put (by simp)
        have hS2 : SqT K (upd H B.p (.lst (vInts m.p.dropLast))) rest _ := SqT.put hl.p True.intro hS
        generalize upd H B.p (.lst (vInts m.p.dropLast)) = H2 at h2 hM2 hv2 hS2 ⊢
        refine ⟨_, rfl, B.M, _, rfl, dg hM2 q_re, _, rfl, rest, _, _, _, rfl, rfl, hS2, at0, B.r, _, _, _, rfl, rfl, h2.r, ixN_ofM ha'.1 (by rw [ints_len, ok.r8]; omega), ?_⟩
        rw [ints_set]
        exact q _ (hv2.trans (Lv.put (by simp))) (h2.setR (m.r.set a.toNat (m.p.getLastD 0)))
    | jump k g far =>
      obtain ⟨ez, rfl⟩ := List.cons.inj ev
      obtain rfl : z = "jump" := (V.str.inj ez).symm
      refine ⟨_, rfl, rfl, _, rfl, it0 (c := decide (V.str "jump" = V.str "say")) (ne (by decide +kernel)) ?_⟩
      refine ⟨_, rfl, rfl, _, rfl, it0 (c := decide (V.str "jump" = V.str "push")) (ne (by decide +kernel)) ?_⟩
      refine ⟨_, rfl, rfl, _, rfl, it0 (c := decide (V.str "jump" = V.str "pop")) (ne (by decide +kernel)) ?_⟩
      refine ⟨_, rfl, rfl, _, rfl, it0 (c := decide (V.str "jump" = V.str "ask")) (ne (by decide +kernel)) ?_⟩
      refine ⟨_, rfl, rfl, _, rfl, it0 (c := decide (V.str "jump" = V.str "back")) (ne (by decide +kernel)) ?_⟩
      refine ⟨_, rfl, rfl, _, rfl, it0 (c := decide (V.str "jump" = V.str "call")) (ne (by decide +kernel)) ?_⟩
      obtain ⟨hk, g0, g1⟩ : k < 7 ∧ 0 ≤ g ∧ g ≤ 65535 := dok
      have e : ((g.toNat : Nat) : Int) = g := Int.toNat_of_nonneg g0
      refine ⟨_, rfl, B.M, _, rfl, dg hM q_fl, f0, _, rfl, SqL.of hf, rfl, _, _, rfl, _, _, rfl, _, _, rfl, rfl, ?_⟩
      refine ⟨_, rfl, _, rfl, _, rfl, _, rfl, _, rfl, _, rfl, _, rfl, _, rfl, _, rfl, line5 (by simp), fun l9 hl9 => ?_⟩
      have s1 : Same H (upd H l9 (.lst [V.bl true, V.bl m.z, V.bl (!m.z), V.bl m.y, V.bl (!m.y), V.bl m.m, V.bl (!m.m)])) := Same.add hl9
      have e1 : (upd H l9 (.lst [V.bl true, V.bl m.z, V.bl (!m.z), V.bl m.y, V.bl (!m.y), V.bl m.m, V.bl (!m.m)])) l9 = some (.lst [V.bl true, V.bl m.z, V.bl (!m.z), V.bl m.y, V.bl (!m.y), V.bl m.m, V.bl (!m.m)]) := upd_same
      generalize upd H l9 (.lst [V.bl true, V.bl m.z, V.bl (!m.z), V.bl m.y, V.bl (!m.y), V.bl m.m, V.bl (!m.m)]) = H1 at s1 e1 ⊢
      have hat : atI [V.bl true, V.bl m.z, V.bl (!m.z), V.bl m.y, V.bl (!m.y), V.bl m.m, V.bl (!m.m)] ((k : Nat) : Int) = some (.bl (m.tm k)) := by
        refine atI_nat ?_
        have hc : k = 0 ∨ k = 1 ∨ k = 2 ∨ k = 3 ∨ k = 4 ∨ k = 5 ∨ k = 6 := by omega
        rcases hc with rfl | rfl | rfl | rfl | rfl | rfl | rfl <;> rfl
      refine ⟨_, rfl, rfl, fun l3 H2 _ s2 e2 => ⟨.inl ⟨rfl, _, SqL.of e2⟩, _, rfl, rest, _, _, _, rfl, rfl, Same.tup (Same.trans s1 s2) hS, at0, _, _, _, _, _, rfl, rfl, SqL.of e2, rfl, flat_strs _, (ixs (tm_at k hk)).1, (ixs (tm_at k hk)).2.1, (ixs (tm_at k hk)).2.2, ?_⟩⟩
      have s12 := Same.trans s1 s2
      refine ⟨l9, _, _, _, rfl, rfl, SqL.of (s2 _ _ e1), hat, _, rfl, ?_⟩
      have hl2 := hl.same s12
      dsimp only [De.act] at q
      cases c : m.tm k with
      | true =>
        rw [c, if_pos rfl] at q
        refine iteT ⟨_, rfl, rest, _, _, _, rfl, rfl, Same.tup s12 hS, atI_nat (j := 1) rfl, _, rfl, B.M, _, rfl, dp (s12 _ _ hM) kv_len s_pl, ?_⟩
        have h3 := hl2.setD (m' := { m with g := g.toNat }) (s12 _ _ hf) ⟨f1, f2, f3, f4, f5, f6⟩ rfl rfl rfl rfl rfl
        dsimp only at h3
        rw [e] at h3
        exact q _ ((Lv.of s12).trans (Lv.put (by simp))) h3
      | false =>
        rw [c, if_neg (by decide)] at q
        exact iteF (q H2 (Lv.of s12) hl2)
    | call g far =>
      obtain ⟨ez, rfl⟩ := List.cons.inj ev
      obtain rfl : z = "call" := (V.str.inj ez).symm
      refine ⟨_, rfl, rfl, _, rfl, it0 (c := decide (V.str "call" = V.str "say")) (ne (by decide +kernel)) ?_⟩
      refine ⟨_, rfl, rfl, _, rfl, it0 (c := decide (V.str "call" = V.str "push")) (ne (by decide +kernel)) ?_⟩
      refine ⟨_, rfl, rfl, _, rfl, it0 (c := decide (V.str "call" = V.str "pop")) (ne (by decide +kernel)) ?_⟩
      refine ⟨_, rfl, rfl, _, rfl, it0 (c := decide (V.str "call" = V.str "ask")) (ne (by decide +kernel)) ?_⟩
      refine ⟨_, rfl, rfl, _, rfl, it0 (c := decide (V.str "call" = V.str "back")) (ne (by decide +kernel)) ?_⟩
      refine ⟨_, rfl, rfl, _, rfl, it1 (c := decide (V.str "call" = V.str "call")) (decide_eq_true rfl) ?_⟩
      have dok : 0 ≤ g ∧ g ≤ 65535 := dok
      have e : ((g.toNat : Nat) : Int) = g := Int.toNat_of_nonneg dok.1
      refine ⟨_, rfl, B.M, _, rfl, dg hM q_ca, .inl ⟨rfl, _, SqL.of hl.k⟩, _, rfl, B.M, _, rfl, dg hM q_pl, B.k, _, _, rfl, rfl, hl.k, ?_, ?_⟩
      · rw [ints_len]
        exact line_lt' (by have := ok.k16; omega)
      rw [ints_one]
      have h2 := hl.setK (m.k ++ [(m.g : Int)])
      have hM2 := (upd_ne (H := H) (o := .lst (vInts (m.k ++ [(m.g : Int)]))) (ne_dl hl.k hM).symm).trans hM
      have hf2 := (upd_ne (H := H) (o := .lst (vInts (m.k ++ [(m.g : Int)]))) f4).trans hf
      have hv2 : Lv B H (upd H B.k (.lst (vInts (m.k ++ [(m.g : Int)])))) := Lv.put (by simp)
      have hS2 : SqT K (upd H B.k (.lst (vInts (m.k ++ [(m.g : Int)])))) rest _ := SqT.put hl.k True.intro hS
      generalize upd H B.k (.lst (vInts (m.k ++ [(m.g : Int)]))) = H2 at h2 hM2 hf2 hv2 hS2 ⊢
      refine ⟨_, rfl, rest, _, _, _, rfl, rfl, hS2, at0, _, rfl, B.M, _, rfl, dp hM2 kv_len s_pl, ?_⟩
      have h3 := h2.setD (m' := { m with k := m.k ++ [(m.g : Int)], g := g.toNat }) hf2 ⟨f1, f2, f3, f4, f5, f6⟩ rfl rfl rfl rfl rfl
      dsimp only at h3
      rw [e] at h3
      exact q _ (hv2.trans (Lv.put (by simp))) h3
    | _ => exact hmv.elim
abbrev KnMov (P : Program) (w : World) (K : PySem.W.Frag) (mg : Str → Option Value) (base : Heap) : Prop := Kn P w K mg base CX0 2 "_law_moves" ["_law_m", "_law_word", "_law_rest"] [] (spMov K)
end
end Bm
set_option maxHeartbeats 1000000
namespace Bm
open PySem PySem.Spec PyProof.Rows L2
section
variable {P : Program} {w : World} {K : PySem.W.Frag} {mg : Str → Option Value} {base : Heap} {f : Addr} {fd : FuncData} {dvs : List V}
/-! _law_does -/
def spDoes (K : PySem.W.Frag) : Sp := fun vs H Q _ => ∃ (B : Lx) (ws gs : List Int) (m : MS), vs = [.ref B.M] ∧ LAt K H ws gs B m ∧ m.Ok gs ∧ wsOk ws ∧ ws.length ≤ 200 ∧ hind ws gs m = "" ∧ m.s.length < 50000 ∧ ∀ H', Lv B H H' → LAt K H' ws gs B (nxt ws gs m) → Q .non H'
abbrev N__law_does : List Str := ["_law_m", "_law_deed_here", "_law_many", "_law_word", "_law_rest", "_law_r", "_law_found", "_law_carry"]
theorem sc__law_does : FnScope ["_law_m", "_law_deed_here", "_law_many", "_law_word", "_law_rest", "_law_r", "_law_found", "_law_carry"] ["_law_m"] (defScope s__law_does) := ⟨rfl, rfl, rfl, by decide +kernel, rfl, by decide +kernel, by decide +kernel⟩
theorem ok_does (F : FnP K "_law_does" s__law_does dvs f fd) (k__law_deed_at : KnLAt P w K mg base) (k__law_flagged : KnFlg P w K mg base) (k__law_pairs : KnNm P w K mg base "_law_pairs" SM) (k__law_brought : KnBrt P w K mg base) (k__law_moves : KnMov P w K mg base) : FnOk P w K mg base CX0 3 f fd ["_law_m"] (spDoes K) := by
  refine F.ok sc__law_does (fun vs H Q E h => ?_) (fun cdv A outer s H vs Q E hr h => ?_)
  · obtain ⟨B, ws, gs, m, rfl, _⟩ := h
    rfl
  · obtain ⟨B, ws, gs, m, rfl, hl, ok, hw, hws, hh, hsl, q⟩ := h
    refine ⟨_, PSs.nox (pss_cons (ps_asg (pk k__law_deed_at hr (by decide) rfl pass0 (pa_cons (pe_dget (hu_of hr) (pv 0) pe_str (fun _ _ => rfl)) (pa_cons (pe_dget (hu_of hr) (pv 0) pe_str (fun _ _ => rfl)) pa_nil))) (pg_tup rfl (pgs_cons (pg_name (i := 1) sc__law_does.nd rfl (Or.inl rfl)) (pgs_cons (pg_name (i := 2) sc__law_does.nd rfl (Or.inl rfl)) pgs_nil))))
      (pss_cons (ps_par3 (i := 3) (j := 4) (l := 5) rfl sc__law_does.nd rfl rfl rfl (by decide) (by decide) (by decide) rfl rfl rfl (pa_cons (pe_ix ix_tup (pv 1) pe_int (fun _ _ => rfl)) (pa_cons (pe_slice sl_tupA (pv 1) (po_some pe_int) po_none) (pa_cons (pe_dget (hu_of hr) (pv 0) pe_str (fun _ _ => rfl)) pa_nil))) rfl)
      (pss_cons (ps_asg (pe_op op_add (pe_dget (hu_of hr) (pv 0) pe_str (fun _ _ => rfl)) (pv 2)) (pg_sub (pv 0) pe_str (set_dict (hu_of hr))))
      (pss_cons (ps_asg (pe_op op_add (pe_dget (hu_of hr) (pv 0) pe_str (fun _ _ => rfl)) pe_int) (pg_sub (pv 0) pe_str (set_dict (hu_of hr))))
      (pss_one (ps_if (pt_cmpR op_eq (pv 3) pe_str (nomark _)) (pss_cons (ps_set (i := 6) sc__law_does.nd rfl (Or.inl rfl) (pe_op op_add (pe_ix ix_list (pv 5) (pe_ix ix_tup (pv 4) pe_int (fun _ _ => rfl)) (fun _ _ => rfl)) (pe_ix ix_tup (pv 4) pe_int (fun _ _ => rfl))))
      (pss_one (ps_expr (pk k__law_flagged hr (by decide) rfl pass0 (pa_cons (pv 0) (pa_cons (pe_ix ix_tup (pv 4) pe_int (fun _ _ => rfl)) (pa_cons (pe_op op_modN (pv 6) pe_int) (pa_cons (pe_cmpR op_ne (pv 6) (pe_op op_modN (pv 6) pe_int) (nomark _)) pa_nil)))))))) (pss_one (ps_if (pt_cmpR op_in_seq (pv 3) (pk0 k__law_pairs hr (by decide) rfl pass0) rfl) (pss_cons (ps_asg (pk k__law_brought hr (by decide) rfl pass0 (pa_cons (pv 3) (pa_cons (pe_ix ix_list (pv 5) (pe_ix ix_tup (pv 4) pe_int (fun _ _ => rfl)) (fun _ _ => rfl)) (pa_cons (pe_ix ix_list (pv 5) (pe_ix ix_tup (pv 4) pe_int (fun _ _ => rfl)) (fun _ _ => rfl)) pa_nil)))) (pg_tup rfl (pgs_cons (pg_name (i := 6) sc__law_does.nd rfl (Or.inl rfl)) (pgs_cons (pg_name (i := 7) sc__law_does.nd rfl (Or.inl rfl)) pgs_nil))))
      (pss_one (ps_expr (pk k__law_flagged hr (by decide) rfl pass0 (pa_cons (pv 0) (pa_cons (pe_ix ix_tup (pv 4) pe_int (fun _ _ => rfl)) (pa_cons (pv 6) (pa_cons (pv 7) pa_nil)))))))) (pss_one (ps_if (pt_cmpR op_in_seq (pv 3) (pe_tup (pa_cons pe_str (pa_cons pe_str pa_nil))) rfl) (pss_one (ps_asg (pe_ifExp (pt_cmpR op_eq (pv 3) pe_str (nomark _)) (pe_ix ix_tup (pv 4) pe_int (fun _ _ => rfl)) (pe_op op_add (pe_op op_mul (pe_ix ix_tup (pv 4) pe_int (fun _ _ => rfl)) pe_int) (pe_op op_modN (pe_ix ix_list (pv 5) (pe_ix ix_tup (pv 4) pe_int (fun _ _ => rfl)) (fun _ _ => rfl)) pe_int))) (pg_sub (pv 5) (pe_ix ix_tup (pv 4) pe_int (fun _ _ => rfl)) set_list))) (pss_one (ps_if (pt_cmpR op_eq (pv 3) pe_str (nomark _)) (pss_one (ps_asg (pe_ix ix_list (pe_dget (hu_of hr) (pv 0) pe_str (fun _ _ => rfl)) (pe_op op_modN (pe_op op_add (pe_ix ix_list (pv 5) (pe_ix ix_tup (pv 4) pe_int (fun _ _ => rfl)) (fun _ _ => rfl)) (pe_ix ix_tup (pv 4) pe_int (fun _ _ => rfl))) pe_int) (fun _ _ => rfl)) (pg_sub (pv 5) (pe_ix ix_tup (pv 4) pe_int (fun _ _ => rfl)) set_list))) (pss_one (ps_if (pt_cmpR op_eq (pv 3) pe_str (nomark _)) (pss_one (ps_asg (pe_ix ix_list (pv 5) (pe_ix ix_tup (pv 4) pe_int (fun _ _ => rfl)) (fun _ _ => rfl)) (pg_sub (pe_dget (hu_of hr) (pv 0) pe_str (fun _ _ => rfl)) (pe_op op_modN (pe_op op_add (pe_ix ix_list (pv 5) (pe_ix ix_tup (pv 4) pe_int (fun _ _ => rfl)) (fun _ _ => rfl)) (pe_ix ix_tup (pv 4) pe_int (fun _ _ => rfl))) pe_int) set_list))) (pss_one (ps_if (pt_cmpR op_ne (pv 3) pe_str (nomark _)) (pss_one (ps_expr (pk k__law_moves hr (by decide) rfl pass0 (pa_cons (pv 0) (pa_cons (pv 3) (pa_cons (pv 4) pa_nil)))))) pss_nil)))))))))))))))), ?_⟩
    obtain ⟨f0, hM, hf, f1, f2, f3, f4, f5, f6⟩ := hl.d
    have ne : ∀ {a b : Str}, a ≠ b → decide (V.str a = V.str b) = false := fun h => decide_eq_false (fun e => h (V.str.inj e))
    obtain ⟨d0, hat0, hh0, hlt⟩ := hind_nil hh
    refine ⟨_, rfl, B.M, _, rfl, dg hM q_im, _, rfl, B.M, _, rfl, dg hM q_pl, B.i, ws, m.g, rfl, .inr hl.i, hlt, hw, by omega, fun d r pd H1 hat s1 hpd hr2 => ?_, fun hno H1 s1 => absurd (atD_is hat0) (hno d0)⟩
    obtain rfl : d = d0 := Option.some.inj ((atD_some hat).symm.trans hat0)
    rw [nxt_some hat0] at q
    clear hat0
    have dok := hat.1
    obtain ⟨z, xs, ev, _⟩ := vals_code dok
    have hpd1 := hpd
    rw [ev] at hpd1
    refine ⟨r, _, rfl, hr2, rfl, _, _, rfl, _, _, rfl, rfl, ?_⟩
    have hl1 := hl.same s1
    have hM1 := s1 _ _ hM
    refine ⟨_, rfl, pd, _, _, _, rfl, rfl, hpd1, at0, _, rfl, _, rfl, pd, _, rfl, hpd1, fun w => absurd w (not_whole_tail _ _), fun _ b hb => ?_⟩
    rw [cut_tail]
    have s2 : Same H1 (upd H1 b (.tup xs)) := Same.add hb
    have e2 : (upd H1 b (.tup xs)) b = some (.tup xs) := upd_same
    generalize upd H1 b (.tup xs) = H2 at s2 e2 ⊢
    have hS2 : SqT K H2 b xs := SqT.of e2
    have hl2 := hl1.same s2
    have hM2 := s2 _ _ hM1
    have hf2 := s2 _ _ (s1 _ _ hf)
    refine ⟨_, rfl, B.M, _, rfl, dg hM2 q_re, _, _, _, rfl, ?_⟩
    refine ⟨_, rfl, B.M, _, rfl, dg hM2 q_pl, _, rfl, _, _, rfl, rfl, _, rfl, B.M, _, rfl, dp hM2 kv_len s_pl, ?_⟩
    have eg : (m.g : Int) + (((d.words m.g).length : Nat) : Int) = ((m.g + (d.words m.g).length : Nat) : Int) := by omega
    dsimp only
    rw [eg]
    have hl3 := hl2.setD (m' := { m with g := m.g + (d.words m.g).length }) hf2 ⟨f1, f2, f3, f4, f5, f6⟩ rfl rfl rfl rfl rfl
    have hv3 : Lv B H (upd H2 B.M (.dK (B.kv (.int (m.a : Nat)) (.ref f0) (.int ((m.g + (d.words m.g).length : Nat) : Int)) (.int (m.n : Nat))))) := ((Lv.of s1).trans (Lv.of s2)).trans (Lv.put (by simp))
    have hS3 : SqT K (upd H2 B.M (.dK (B.kv (.int (m.a : Nat)) (.ref f0) (.int ((m.g + (d.words m.g).length : Nat) : Int)) (.int (m.n : Nat))))) b xs := SqT.put hM2 True.intro hS2
    have hM3 : upd H2 B.M (.dK (B.kv (.int (m.a : Nat)) (.ref f0) (.int ((m.g + (d.words m.g).length : Nat) : Int)) (.int (m.n : Nat)))) B.M = some (.dK (B.kv (.int (m.a : Nat)) (.ref f0) (.int ((m.g + (d.words m.g).length : Nat) : Int)) (.int (m.n : Nat)))) := upd_same
    have hf3 := (upd_ne (H := H2) (o := .dK (B.kv (.int (m.a : Nat)) (.ref f0) (.int ((m.g + (d.words m.g).length : Nat) : Int)) (.int (m.n : Nat)))) (ne_dl hf2 hM2)).trans hf2
    generalize upd H2 B.M (.dK (B.kv (.int (m.a : Nat)) (.ref f0) (.int ((m.g + (d.words m.g).length : Nat) : Int)) (.int (m.n : Nat)))) = H3 at hl3 hv3 hS3 hM3 hf3 ⊢
    refine ⟨_, rfl, B.M, _, rfl, dg hM3 q_do, _, _, rfl, rfl, _, rfl, B.M, _, rfl, dp hM3 kv_len s_do, ?_⟩
    have en : (m.n : Int) + 1 = ((m.n + 1 : Nat) : Int) := by omega
    dsimp only
    rw [en]
    have hl9 := hl3.setD (m' := m.past (d.words m.g).length) hf3 ⟨f1, f2, f3, f4, f5, f6⟩ rfl rfl rfl rfl rfl
    have hl4 : LAt K (upd H3 B.M (.dK (B.kv (.int (m.a : Nat)) (.ref f0) (.int ((m.g + (d.words m.g).length : Nat) : Int)) (.int ((m.n + 1 : Nat) : Int))))) ws gs B (m.past (d.words m.g).length) := hl9
    clear hl9
    have hv4 : Lv B H (upd H3 B.M (.dK (B.kv (.int (m.a : Nat)) (.ref f0) (.int ((m.g + (d.words m.g).length : Nat) : Int)) (.int ((m.n + 1 : Nat) : Int))))) := hv3.trans (Lv.put (by simp))
    have hS4 : SqT K (upd H3 B.M (.dK (B.kv (.int (m.a : Nat)) (.ref f0) (.int ((m.g + (d.words m.g).length : Nat) : Int)) (.int ((m.n + 1 : Nat) : Int))))) b xs := SqT.put hM3 True.intro hS3
    generalize upd H3 B.M (.dK (B.kv (.int (m.a : Nat)) (.ref f0) (.int ((m.g + (d.words m.g).length : Nat) : Int)) (.int ((m.n + 1 : Nat) : Int)))) = H4 at hl4 hv4 hS4 ⊢
    have ok4 := past_ok ok (d.words m.g).length
    have hh4 : d.hin gs (m.past (d.words m.g).length) = "" := by rw [hin_past]; exact hh0
    have hs4 : (m.past (d.words m.g).length).s.length < 50000 := hsl
    clear hl1 hl2 hl3 hv3 hS3 hM3 hf3 hM2 hf2 hM1 hS2 e2 hpd hpd1 hr2
    generalize m.past (d.words m.g).length = m1 at hl4 ok4 hh4 hs4 q
    obtain ⟨f9, hM4, hf4, j1, j2, j3, j4, j5, j6⟩ := hl4.d
    have rg : ∀ a, r3 a → atI (vInts m1.r) a = some (.int (m1.rg a)) := fun a h => at_rg ok4 h
    have fm : ∀ n : Int, n.fmod 65536 = n % 65536 := fun n => Int.fmod_eq_emod_of_nonneg _ (by decide)
    have nd : ∀ x y : Int, (!decide (V.int x = V.int y)) = !decide (y = x) := fun x y => congrArg Bool.not (decide_eq_decide.mpr ⟨fun z => (V.int.inj z).symm, fun z => by rw [z]⟩)
    have eq1 : ∀ x : Str, decide (V.str x = V.str x) = true := fun x => decide_eq_true rfl
    have st : ∀ {i : Int} {l : List Int}, r3 i → l.length = 8 → ixN (vInts l).length i = some i.toNat := fun {i} {l} h e => ixN_ofM h.1 (by rw [ints_len, e]; have h2 : i ≤ 7 := h.2; omega)
    cases d with
    | plus dd a n =>
      obtain ⟨ez, rfl⟩ := List.cons.inj ev
      obtain rfl : z = "plus" := (V.str.inj ez).symm
      obtain ⟨hd, ha, hn⟩ := dok
      have hd' : 0 ≤ dd ∧ dd ≤ 7 := hd
      refine ⟨_, rfl, rfl, _, rfl, it1 (c := decide (V.str "plus" = V.str "plus")) (eq1 _) ?_⟩
      refine ⟨_, rfl, _, rfl, b, _, _, _, rfl, rfl, hS4, atI_nat (j := 1) rfl, B.r, _, _, _, rfl, rfl, SqL.of hl4.r, rg a ha, _, rfl, b, _, _, _, rfl, rfl, hS4, atI_nat (j := 2) rfl, _, _, rfl, rfl, ?_⟩
      refine ⟨_, rfl, _, rfl, b, _, _, _, rfl, rfl, hS4, at0, _, rfl, _, _, rfl, rfl, (by show (65536 : Int) ≠ 0; decide), _, rfl, _, rfl, _, _, rfl, rfl, (by show (65536 : Int) ≠ 0; decide), rfl, ?_⟩
      refine ⟨B, ws, gs, m1, dd, (m1.rg a + n) % 65536, !decide ((m1.rg a + n) % 65536 = m1.rg a + n), ?_, hl4, ok4.r8, hd'.1, hd'.2, fun H5 v5 hl5 => q H5 (hv4.trans v5) hl5⟩
      dsimp only
      rw [nd, fm]
      rfl
    | sum k dd a b2 =>
      obtain ⟨ez, rfl⟩ := List.cons.inj ev
      obtain rfl : z = nm SM k := (V.str.inj ez).symm
      obtain ⟨hk, hd, ha, hb2⟩ := dok
      have hd' : 0 ≤ dd ∧ dd ≤ 7 := hd
      have hn : ∀ k, k < 8 → nm SM k ≠ "plus" := by decide +kernel
      refine ⟨_, rfl, rfl, _, rfl, it0 (c := decide (V.str (nm SM k) = V.str "plus")) (ne (hn k hk)) ?_⟩
      refine ⟨_, rfl, rfl, fun l5 H5 _ s5 e5 => ⟨_, _, rfl, .inl (SqL.of e5), rfl, flat_strs SM, _, rfl, ?_⟩⟩
      have hS5 := Same.tup s5 hS4
      have hl5 := hl4.same s5
      refine it1 (c := inV (.str (nm SM k)) (SM.map V.str)) (by rw [inV_strs]; exact (sm_in k hk).2) ?_
      refine ⟨_, rfl, _, rfl, _, rfl, b, _, _, _, rfl, rfl, hS5, atI_nat (j := 1) rfl, B.r, _, _, _, rfl, rfl, SqL.of hl5.r, rg a ha, _, rfl, _, rfl, b, _, _, _, rfl, rfl, hS5, atI_nat (j := 2) rfl, B.r, _, _, _, rfl, rfl, SqL.of hl5.r, rg b2 hb2, k, _, _, rfl, hk, ok4.reg a, ok4.reg b2, fun p7 H7 s7 e7 => ?_⟩
      refine ⟨p7, _, rfl, e7, rfl, _, _, rfl, _, _, rfl, rfl, ?_⟩
      refine ⟨_, rfl, _, rfl, b, _, _, _, rfl, rfl, (Same.tup s7 hS5), at0, _, rfl, _, rfl, B, ws, gs, m1, dd, _, _, rfl, hl5.same s7, ok4.r8, hd'.1, hd'.2, fun H8 v8 hl8 => q H8 ((hv4.trans (Lv.of (Same.trans s5 s7))).trans v8) hl8⟩
    | set dd n =>
      obtain ⟨ez, rfl⟩ := List.cons.inj ev
      obtain rfl : z = "set" := (V.str.inj ez).symm
      obtain ⟨hd, hn⟩ := dok
      refine ⟨_, rfl, rfl, _, rfl, it0 (c := decide (V.str "set" = V.str "plus")) (ne (by decide +kernel)) ?_⟩
      refine ⟨_, rfl, rfl, fun l5 H5 _ s5 e5 => ⟨_, _, rfl, .inl (SqL.of e5), rfl, flat_strs SM, _, rfl, ?_⟩⟩
      refine it0 (c := inV (.str "set") (SM.map V.str)) (by rw [inV_strs]; exact (by decide +kernel)) ?_
      refine ⟨_, rfl, line5 (by simp), fun p6 hp6 => ?_⟩
      have s6 : Same H5 (upd H5 p6 (.tup [.str "set", .str "high"])) := Same.add hp6
      have e6 : (upd H5 p6 (.tup [.str "set", .str "high"])) p6 = some (.tup [.str "set", .str "high"]) := upd_same
      generalize upd H5 p6 (.tup [.str "set", .str "high"]) = H6 at s6 e6 ⊢
      have s46 := Same.trans s5 s6
      have hl6 := hl4.same s46
      have hS6 := Same.tup s46 hS4
      have hM6 := s46 _ _ hM4
      have v6 : Lv B H H6 := hv4.trans (Lv.of s46)
      refine ⟨_, _, rfl, .inr (SqT.of e6), rfl, rfl, _, rfl, ?_⟩
      refine it1 (c := inV (.str "set") [.str "set", .str "high"]) (by decide +kernel) ?_
      refine ⟨_, rfl, rfl, _, rfl, it1 (c := decide (V.str "set" = V.str "set")) (eq1 _) ?_⟩
      refine ⟨_, rfl, b, _, _, _, rfl, rfl, hS6, atI_nat (j := 1) rfl, _, rfl, _, rfl, b, _, _, _, rfl, rfl, hS6, at0, B.r, _, _, _, rfl, rfl, hl6.r, st hd ok4.r8, ?_⟩
      rw [ints_set]
      exact q _ (v6.trans (Lv.put (by simp))) (hl6.setR _)
    | high dd n =>
      obtain ⟨ez, rfl⟩ := List.cons.inj ev
      obtain rfl : z = "high" := (V.str.inj ez).symm
      obtain ⟨hd, hn⟩ := dok
      refine ⟨_, rfl, rfl, _, rfl, it0 (c := decide (V.str "high" = V.str "plus")) (ne (by decide +kernel)) ?_⟩
      refine ⟨_, rfl, rfl, fun l5 H5 _ s5 e5 => ⟨_, _, rfl, .inl (SqL.of e5), rfl, flat_strs SM, _, rfl, ?_⟩⟩
      refine it0 (c := inV (.str "high") (SM.map V.str)) (by rw [inV_strs]; exact (by decide +kernel)) ?_
      refine ⟨_, rfl, line5 (by simp), fun p6 hp6 => ?_⟩
      have s6 : Same H5 (upd H5 p6 (.tup [.str "set", .str "high"])) := Same.add hp6
      have e6 : (upd H5 p6 (.tup [.str "set", .str "high"])) p6 = some (.tup [.str "set", .str "high"]) := upd_same
      generalize upd H5 p6 (.tup [.str "set", .str "high"]) = H6 at s6 e6 ⊢
      have s46 := Same.trans s5 s6
      have hl6 := hl4.same s46
      have hS6 := Same.tup s46 hS4
      have hM6 := s46 _ _ hM4
      have v6 : Lv B H H6 := hv4.trans (Lv.of s46)
      refine ⟨_, _, rfl, .inr (SqT.of e6), rfl, rfl, _, rfl, ?_⟩
      refine it1 (c := inV (.str "high") [.str "set", .str "high"]) (by decide +kernel) ?_
      refine ⟨_, rfl, rfl, _, rfl, it0 (c := decide (V.str "high" = V.str "set")) (ne (by decide +kernel)) ?_⟩
      refine ⟨_, rfl, b, _, _, _, rfl, rfl, hS6, atI_nat (j := 1) rfl, _, _, rfl, rfl, .inr ⟨by decide, by decide⟩, _, rfl, _, rfl, b, _, _, _, rfl, rfl, hS6, at0, B.r, _, _, _, rfl, rfl, SqL.of hl6.r, rg dd hd, _, _, rfl, rfl, (by show (512 : Int) ≠ 0; decide), _, _, rfl, rfl, ?_⟩
      refine ⟨_, rfl, _, rfl, b, _, _, _, rfl, rfl, hS6, at0, B.r, _, _, _, rfl, rfl, hl6.r, st hd ok4.r8, ?_⟩
      dsimp only
      rw [ints_set, Int.fmod_eq_emod_of_nonneg _ (by decide)]
      exact q _ (v6.trans (Lv.put (by simp))) (hl6.setR _)
    | load dd a n =>
      obtain ⟨ez, rfl⟩ := List.cons.inj ev
      obtain rfl : z = "load" := (V.str.inj ez).symm
      obtain ⟨hd, ha, hn⟩ := dok
      refine ⟨_, rfl, rfl, _, rfl, it0 (c := decide (V.str "load" = V.str "plus")) (ne (by decide +kernel)) ?_⟩
      refine ⟨_, rfl, rfl, fun l5 H5 _ s5 e5 => ⟨_, _, rfl, .inl (SqL.of e5), rfl, flat_strs SM, _, rfl, ?_⟩⟩
      refine it0 (c := inV (.str "load") (SM.map V.str)) (by rw [inV_strs]; exact (by decide +kernel)) ?_
      refine ⟨_, rfl, line5 (by simp), fun p6 hp6 => ?_⟩
      have s6 : Same H5 (upd H5 p6 (.tup [.str "set", .str "high"])) := Same.add hp6
      have e6 : (upd H5 p6 (.tup [.str "set", .str "high"])) p6 = some (.tup [.str "set", .str "high"]) := upd_same
      generalize upd H5 p6 (.tup [.str "set", .str "high"]) = H6 at s6 e6 ⊢
      have s46 := Same.trans s5 s6
      have hl6 := hl4.same s46
      have hS6 := Same.tup s46 hS4
      have hM6 := s46 _ _ hM4
      have v6 : Lv B H H6 := hv4.trans (Lv.of s46)
      refine ⟨_, _, rfl, .inr (SqT.of e6), rfl, rfl, _, rfl, ?_⟩
      refine it0 (c := inV (.str "load") [.str "set", .str "high"]) (by decide +kernel) ?_
      refine ⟨_, rfl, rfl, _, rfl, it1 (c := decide (V.str "load" = V.str "load")) (eq1 _) ?_⟩
      have f64 : (m1.rg a + n).fmod 64 = (m1.rg a + n) % 64 := Int.fmod_eq_emod_of_nonneg _ (by decide)
      refine ⟨_, rfl, B.M, _, rfl, dg hM6 q_ce, _, rfl, _, rfl, b, _, _, _, rfl, rfl, hS6, atI_nat (j := 1) rfl, B.r, _, _, _, rfl, rfl, SqL.of hl6.r, rg a ha, _, rfl, b, _, _, _, rfl, rfl, hS6, atI_nat (j := 2) rfl, _, _, rfl, rfl, _, _, rfl, rfl, (by show (64 : Int) ≠ 0; decide), B.c, _, _, _, rfl, rfl, SqL.of hl6.c, by rw [f64]; exact at_cell ok4 (by omega) (by omega), ?_⟩
      refine ⟨_, rfl, _, rfl, b, _, _, _, rfl, rfl, hS6, at0, B.r, _, _, _, rfl, rfl, hl6.r, st hd ok4.r8, ?_⟩
      rw [ints_set]
      exact q _ (v6.trans (Lv.put (by simp))) (hl6.setR _)
    | store dd a n =>
      obtain ⟨ez, rfl⟩ := List.cons.inj ev
      obtain rfl : z = "store" := (V.str.inj ez).symm
      obtain ⟨hd, ha, hn⟩ := dok
      refine ⟨_, rfl, rfl, _, rfl, it0 (c := decide (V.str "store" = V.str "plus")) (ne (by decide +kernel)) ?_⟩
      refine ⟨_, rfl, rfl, fun l5 H5 _ s5 e5 => ⟨_, _, rfl, .inl (SqL.of e5), rfl, flat_strs SM, _, rfl, ?_⟩⟩
      refine it0 (c := inV (.str "store") (SM.map V.str)) (by rw [inV_strs]; exact (by decide +kernel)) ?_
      refine ⟨_, rfl, line5 (by simp), fun p6 hp6 => ?_⟩
      have s6 : Same H5 (upd H5 p6 (.tup [.str "set", .str "high"])) := Same.add hp6
      have e6 : (upd H5 p6 (.tup [.str "set", .str "high"])) p6 = some (.tup [.str "set", .str "high"]) := upd_same
      generalize upd H5 p6 (.tup [.str "set", .str "high"]) = H6 at s6 e6 ⊢
      have s46 := Same.trans s5 s6
      have hl6 := hl4.same s46
      have hS6 := Same.tup s46 hS4
      have hM6 := s46 _ _ hM4
      have v6 : Lv B H H6 := hv4.trans (Lv.of s46)
      refine ⟨_, _, rfl, .inr (SqT.of e6), rfl, rfl, _, rfl, ?_⟩
      refine it0 (c := inV (.str "store") [.str "set", .str "high"]) (by decide +kernel) ?_
      refine ⟨_, rfl, rfl, _, rfl, it0 (c := decide (V.str "store" = V.str "load")) (ne (by decide +kernel)) ?_⟩
      refine ⟨_, rfl, rfl, _, rfl, it1 (c := decide (V.str "store" = V.str "store")) (eq1 _) ?_⟩
      have f64 : (m1.rg a + n).fmod 64 = (m1.rg a + n) % 64 := Int.fmod_eq_emod_of_nonneg _ (by decide)
      refine ⟨_, rfl, _, rfl, b, _, _, _, rfl, rfl, hS6, at0, B.r, _, _, _, rfl, rfl, SqL.of hl6.r, rg dd hd, ?_⟩
      refine ⟨_, rfl, B.M, _, rfl, dg hM6 q_ce, _, rfl, _, rfl, b, _, _, _, rfl, rfl, hS6, atI_nat (j := 1) rfl, B.r, _, _, _, rfl, rfl, SqL.of hl6.r, rg a ha, _, rfl, b, _, _, _, rfl, rfl, hS6, atI_nat (j := 2) rfl, _, _, rfl, rfl, _, _, rfl, rfl, (by show (64 : Int) ≠ 0; decide), B.c, _, _, _, rfl, rfl, hl6.c, by rw [f64]; exact ixN_ofM (by omega) (by rw [ints_len, ok4.c64]; omega), ?_⟩
      rw [ints_set]
      exact q _ (v6.trans (Lv.put (by simp))) (hl6.setC _)
    | sgl k =>
      obtain ⟨ez, rfl⟩ := List.cons.inj ev
      obtain rfl : z = nm SG k := (V.str.inj ez).symm
      have k3 : k < 3 := dok
      have hfs : ∀ k, k < 7 → nm SG k ≠ "plus" ∧ (SM.any fun y => y == nm SG k) = false ∧ inV (.str (nm SG k)) [.str "set", .str "high"] = false ∧ nm SG k ≠ "load" ∧ nm SG k ≠ "store" ∧ (2 ≤ k → nm SG k ≠ "rest") := by decide +kernel
      obtain ⟨x1, x2, x3, x4, x5, x6⟩ := hfs k (by omega)
      refine ⟨_, rfl, rfl, _, rfl, it0 (c := decide (V.str (nm SG k) = V.str "plus")) (ne x1) ?_⟩
      refine ⟨_, rfl, rfl, fun l5 H5 _ s5 e5 => ⟨_, _, rfl, .inl (SqL.of e5), rfl, flat_strs SM, _, rfl, ?_⟩⟩
      refine it0 (c := inV (.str (nm SG k)) (SM.map V.str)) (by rw [inV_strs]; exact x2) ?_
      refine ⟨_, rfl, line5 (by simp), fun p6 hp6 => ?_⟩
      have s6 : Same H5 (upd H5 p6 (.tup [.str "set", .str "high"])) := Same.add hp6
      have e6 : (upd H5 p6 (.tup [.str "set", .str "high"])) p6 = some (.tup [.str "set", .str "high"]) := upd_same
      generalize upd H5 p6 (.tup [.str "set", .str "high"]) = H6 at s6 e6 ⊢
      have s46 := Same.trans s5 s6
      have hl6 := hl4.same s46
      have hS6 := Same.tup s46 hS4
      have hM6 := s46 _ _ hM4
      have v6 : Lv B H H6 := hv4.trans (Lv.of s46)
      refine ⟨_, _, rfl, .inr (SqT.of e6), rfl, rfl, _, rfl, ?_⟩
      refine it0 (c := inV (.str (nm SG k)) [.str "set", .str "high"]) x3 ?_
      refine ⟨_, rfl, rfl, _, rfl, it0 (c := decide (V.str (nm SG k) = V.str "load")) (ne x4) ?_⟩
      refine ⟨_, rfl, rfl, _, rfl, it0 (c := decide (V.str (nm SG k) = V.str "store")) (ne x5) ?_⟩
      have hc : k = 0 ∨ k = 1 ∨ k = 2 := by omega
      rcases hc with rfl | rfl | rfl
      · exact absurd hh4 (by dsimp only [De.hin]; rw [if_pos rfl]; exact str_ne.1)
      · exact ⟨_, rfl, rfl, _, rfl, it0 (c := !decide (V.str (nm SG 1) = V.str "rest")) (by decide +kernel) (q _ v6 hl6)⟩
      · refine ⟨_, rfl, rfl, _, rfl, it1 (c := !decide (V.str (nm SG 2) = V.str "rest")) (by decide +kernel) ?_⟩
        exact ⟨_, rfl, _, rfl, _, rfl, B, ws, gs, m1, _, _, _, b, rfl, rfl, hS6, hl6, ok4, dok, hh4, rfl, hs4, fun H7 v7 hl7 => q H7 (v6.trans v7) hl7⟩
    | reg k a =>
      obtain ⟨ez, rfl⟩ := List.cons.inj ev
      obtain rfl : z = nm SG k := (V.str.inj ez).symm
      obtain ⟨k3, k7, _⟩ := id dok
      have hfs : ∀ k, k < 7 → nm SG k ≠ "plus" ∧ (SM.any fun y => y == nm SG k) = false ∧ inV (.str (nm SG k)) [.str "set", .str "high"] = false ∧ nm SG k ≠ "load" ∧ nm SG k ≠ "store" ∧ (2 ≤ k → nm SG k ≠ "rest") := by decide +kernel
      obtain ⟨x1, x2, x3, x4, x5, x6⟩ := hfs k k7
      have x6 := x6 (by omega)
      refine ⟨_, rfl, rfl, _, rfl, it0 (c := decide (V.str (nm SG k) = V.str "plus")) (ne x1) ?_⟩
      refine ⟨_, rfl, rfl, fun l5 H5 _ s5 e5 => ⟨_, _, rfl, .inl (SqL.of e5), rfl, flat_strs SM, _, rfl, ?_⟩⟩
      refine it0 (c := inV (.str (nm SG k)) (SM.map V.str)) (by rw [inV_strs]; exact x2) ?_
      refine ⟨_, rfl, line5 (by simp), fun p6 hp6 => ?_⟩
      have s6 : Same H5 (upd H5 p6 (.tup [.str "set", .str "high"])) := Same.add hp6
      have e6 : (upd H5 p6 (.tup [.str "set", .str "high"])) p6 = some (.tup [.str "set", .str "high"]) := upd_same
      generalize upd H5 p6 (.tup [.str "set", .str "high"]) = H6 at s6 e6 ⊢
      have s46 := Same.trans s5 s6
      have hl6 := hl4.same s46
      have hS6 := Same.tup s46 hS4
      have hM6 := s46 _ _ hM4
      have v6 : Lv B H H6 := hv4.trans (Lv.of s46)
      refine ⟨_, _, rfl, .inr (SqT.of e6), rfl, rfl, _, rfl, ?_⟩
      refine it0 (c := inV (.str (nm SG k)) [.str "set", .str "high"]) x3 ?_
      refine ⟨_, rfl, rfl, _, rfl, it0 (c := decide (V.str (nm SG k) = V.str "load")) (ne x4) ?_⟩
      refine ⟨_, rfl, rfl, _, rfl, it0 (c := decide (V.str (nm SG k) = V.str "store")) (ne x5) ?_⟩
      refine ⟨_, rfl, rfl, _, rfl, it1 (c := !decide (V.str (nm SG k) = V.str "rest")) (by rw [ne x6]; rfl) ?_⟩
      exact ⟨_, rfl, _, rfl, _, rfl, B, ws, gs, m1, _, _, _, b, rfl, rfl, hS6, hl6, ok4, dok, hh4, True.intro, hs4, fun H7 v7 hl7 => q H7 (v6.trans v7) hl7⟩
    | jump k g far =>
      obtain ⟨ez, rfl⟩ := List.cons.inj ev
      obtain rfl : z = "jump" := (V.str.inj ez).symm
      refine ⟨_, rfl, rfl, _, rfl, it0 (c := decide (V.str "jump" = V.str "plus")) (ne (by decide +kernel)) ?_⟩
      refine ⟨_, rfl, rfl, fun l5 H5 _ s5 e5 => ⟨_, _, rfl, .inl (SqL.of e5), rfl, flat_strs SM, _, rfl, ?_⟩⟩
      refine it0 (c := inV (.str "jump") (SM.map V.str)) (by rw [inV_strs]; exact (by decide +kernel)) ?_
      refine ⟨_, rfl, line5 (by simp), fun p6 hp6 => ?_⟩
      have s6 : Same H5 (upd H5 p6 (.tup [.str "set", .str "high"])) := Same.add hp6
      have e6 : (upd H5 p6 (.tup [.str "set", .str "high"])) p6 = some (.tup [.str "set", .str "high"]) := upd_same
      generalize upd H5 p6 (.tup [.str "set", .str "high"]) = H6 at s6 e6 ⊢
      have s46 := Same.trans s5 s6
      have hl6 := hl4.same s46
      have hS6 := Same.tup s46 hS4
      have hM6 := s46 _ _ hM4
      have v6 : Lv B H H6 := hv4.trans (Lv.of s46)
      refine ⟨_, _, rfl, .inr (SqT.of e6), rfl, rfl, _, rfl, ?_⟩
      refine it0 (c := inV (.str "jump") [.str "set", .str "high"]) (by decide +kernel) ?_
      refine ⟨_, rfl, rfl, _, rfl, it0 (c := decide (V.str "jump" = V.str "load")) (ne (by decide +kernel)) ?_⟩
      refine ⟨_, rfl, rfl, _, rfl, it0 (c := decide (V.str "jump" = V.str "store")) (ne (by decide +kernel)) ?_⟩
      refine ⟨_, rfl, rfl, _, rfl, it1 (c := !decide (V.str "jump" = V.str "rest")) (by rw [ne (by decide +kernel)]; rfl) ?_⟩
      exact ⟨_, rfl, _, rfl, _, rfl, B, ws, gs, m1, _, _, _, b, rfl, rfl, hS6, hl6, ok4, dok, hh4, True.intro, hs4, fun H7 v7 hl7 => q H7 (v6.trans v7) hl7⟩
    | call g far =>
      obtain ⟨ez, rfl⟩ := List.cons.inj ev
      obtain rfl : z = "call" := (V.str.inj ez).symm
      refine ⟨_, rfl, rfl, _, rfl, it0 (c := decide (V.str "call" = V.str "plus")) (ne (by decide +kernel)) ?_⟩
      refine ⟨_, rfl, rfl, fun l5 H5 _ s5 e5 => ⟨_, _, rfl, .inl (SqL.of e5), rfl, flat_strs SM, _, rfl, ?_⟩⟩
      refine it0 (c := inV (.str "call") (SM.map V.str)) (by rw [inV_strs]; exact (by decide +kernel)) ?_
      refine ⟨_, rfl, line5 (by simp), fun p6 hp6 => ?_⟩
      have s6 : Same H5 (upd H5 p6 (.tup [.str "set", .str "high"])) := Same.add hp6
      have e6 : (upd H5 p6 (.tup [.str "set", .str "high"])) p6 = some (.tup [.str "set", .str "high"]) := upd_same
      generalize upd H5 p6 (.tup [.str "set", .str "high"]) = H6 at s6 e6 ⊢
      have s46 := Same.trans s5 s6
      have hl6 := hl4.same s46
      have hS6 := Same.tup s46 hS4
      have hM6 := s46 _ _ hM4
      have v6 : Lv B H H6 := hv4.trans (Lv.of s46)
      refine ⟨_, _, rfl, .inr (SqT.of e6), rfl, rfl, _, rfl, ?_⟩
      refine it0 (c := inV (.str "call") [.str "set", .str "high"]) (by decide +kernel) ?_
      refine ⟨_, rfl, rfl, _, rfl, it0 (c := decide (V.str "call" = V.str "load")) (ne (by decide +kernel)) ?_⟩
      refine ⟨_, rfl, rfl, _, rfl, it0 (c := decide (V.str "call" = V.str "store")) (ne (by decide +kernel)) ?_⟩
      refine ⟨_, rfl, rfl, _, rfl, it1 (c := !decide (V.str "call" = V.str "rest")) (by rw [ne (by decide +kernel)]; rfl) ?_⟩
      exact ⟨_, rfl, _, rfl, _, rfl, B, ws, gs, m1, _, _, _, b, rfl, rfl, hS6, hl6, ok4, dok, hh4, True.intro, hs4, fun H7 v7 hl7 => q H7 (v6.trans v7) hl7⟩
abbrev KnDoes (P : Program) (w : World) (K : PySem.W.Frag) (mg : Str → Option Value) (base : Heap) : Prop := Kn P w K mg base CX0 3 "_law_does" ["_law_m"] [] (spDoes K)
end
end Bm
set_option maxHeartbeats 1000000
namespace Bm
open PySem PySem.Spec PyProof.Rows L2
/-- so many deeds at the most -/
noncomputable def rn (ws gs : List Int) : Nat → MS → Str × MS
  | 0, m => ("", m)
  | c + 1, m => if hind ws gs m = "" then rn ws gs c (nxt ws gs m) else (hind ws gs m, m)
theorem goM_rn {ws gs : List Int} {mk : MS → Bool} (h : ∀ m, mk m = false) : ∀ (n i : Nat) (hs : List MS) (m : MS), (goM ws gs mk n i hs m).1 = (rn ws gs n m).1 ∧ (goM ws gs mk n i hs m).2.2 = (rn ws gs n m).2
  | 0, _, _, _ => ⟨rfl, rfl⟩
  | n + 1, i, hs, m => by
    unfold goM rn
    rw [if_neg (by rw [h m]; simp)]
    by_cases c : hind ws gs m = ""
    · rw [if_pos c, if_pos c]
      exact goM_rn h n _ _ _
    · rw [if_neg c, if_neg c]
      exact ⟨rfl, rfl⟩
theorem mkd_no {tt : List (Key × V)} : ∀ m, mkd tt false m = false := fun m => rfl
theorem nxt_ok {ws gs : List Int} {m : MS} (ok : m.Ok gs) (hg : ∀ x ∈ gs, isWd x) (h : hind ws gs m = "") : (nxt ws gs m).Ok gs ∧ (nxt ws gs m).s.length ≤ m.s.length + 1 ∧ (nxt ws gs m).n = m.n + 1 := by
  obtain ⟨d, hat, hh, _⟩ := hind_nil h
  rw [nxt_some hat]
  have l := act_s d gs (m.past (d.words m.g).length)
  exact ⟨act_ok (past_ok ok _) (atD_is hat).1 hg (by rw [hin_past]; exact hh), l.1, l.2⟩
theorem rn_ok {ws gs : List Int} (hg : ∀ x ∈ gs, isWd x) : ∀ (n : Nat) (m : MS), m.Ok gs → (rn ws gs n m).2.Ok gs ∧ (rn ws gs n m).2.s.length ≤ m.s.length + n ∧ (rn ws gs n m).2.n ≤ m.n + n
  | 0, m, ok => ⟨ok, Nat.le_refl _, Nat.le_refl _⟩
  | n + 1, m, ok => by
    unfold rn
    by_cases c : hind ws gs m = ""
    · rw [if_pos c]
      obtain ⟨o2, l2, n2⟩ := nxt_ok ok hg c
      obtain ⟨o3, l3, n3⟩ := rn_ok hg n _ o2
      exact ⟨o3, by omega, by omega⟩
    · rw [if_neg c]
      exact ⟨ok, by show m.s.length ≤ _; omega, by show m.n ≤ _; omega⟩
section
variable {P : Program} {w : World} {K : PySem.W.Frag} {mg : Str → Option Value} {base : Heap} {f : Addr} {fd : FuncData} {dvs : List V}
/-! _law_run -/
def spRun (K : PySem.W.Frag) : Sp := fun vs H Q _ => ∃ (B : Lx) (ws gs : List Int) (m : MS) (n : Nat), vs = [.ref B.M, .int (n : Nat)] ∧ LAt K H ws gs B m ∧ m.Ok gs ∧ wsOk ws ∧ ws.length ≤ 200 ∧ (∀ x ∈ gs, isWd x) ∧ m.s.length + n ≤ 50000 ∧ ∀ H', Lv B H H' → LAt K H' ws gs B (rn ws gs n m).2 → Q (.str (rn ws gs n m).1) H'
abbrev N__law_run : List Str := ["_law_m", "_law_most", "_law_turn", "_law_why"]
theorem sc__law_run : FnScope ["_law_m", "_law_most", "_law_turn", "_law_why"] ["_law_m", "_law_most"] (defScope s__law_run) := ⟨rfl, rfl, rfl, by decide +kernel, rfl, by decide +kernel, by decide +kernel⟩
theorem ok_run (F : FnP K "_law_run" s__law_run dvs f fd) (k__law_stopped : KnStp P w K mg base) (k__law_does : KnDoes P w K mg base) (g_range : mg "range" = none) : FnOk P w K mg base CX0 4 f fd ["_law_m", "_law_most"] (spRun K) := by
  refine F.ok sc__law_run (fun vs H Q E h => ?_) (fun cdv A outer s H vs Q E hr h => ?_)
  · obtain ⟨B, ws, gs, m, n, rfl, _⟩ := h
    rfl
  · obtain ⟨B, ws, gs, m, n, rfl, hl, ok, hw, hws, hgw, hsl, q⟩ := h
    refine ⟨_, PSs.nox (pss_cons (ps_for PassesOwn.never rfl (pi_range1 rfl g_range (pa_cons (pv 1) pa_nil)) (pg_name (i := 2) sc__law_run.nd rfl (Or.inl rfl))
      (pss_cons (ps_set (i := 3) sc__law_run.nd rfl (Or.inl rfl) (pk k__law_stopped hr (by decide) rfl pass0 (pa_cons (pv 0) pa_nil)))
      (pss_cons (ps_if (pt_cmpR op_ne (pv 3) pe_str (nomark _)) (pss_one (ps_ret (pv 3))) pss_nil)
      (pss_one (ps_expr (pk k__law_does hr (by decide) rfl pass0 (pa_cons (pv 0) pa_nil)))))))
      (pss_one (ps_ret pe_str))), ?_⟩
    refine ⟨_, rfl, _, rfl, by omega, by omega, for_range (n := ((n : Nat) : Int).toNat) (fun i σ G => ∃ (m' : MS) (v2 v3 : Option V), σ = [some (.ref B.M), some (.int (n : Nat)), v2, v3] ∧ Lv B H G ∧ LAt K G ws gs B m' ∧ m'.Ok gs ∧ m'.s.length ≤ m.s.length + i ∧ rn ws gs n m = rn ws gs (n - i) m')
      ⟨m, none, none, rfl, Lv.of (Same.refl H), hl, ok, Nat.le_refl _, rfl⟩ ?_ ?_⟩
    · rintro i σ G hi ⟨m', v2, v3, rfl, mv, hl', ok', l1, e⟩
      have hi : i < n := by simpa using hi
      have en : n - i = (n - (i + 1)) + 1 := by omega
      have e4 : rn ws gs (n - i) m' = if hind ws gs m' = "" then rn ws gs (n - (i + 1)) (nxt ws gs m') else (hind ws gs m', m') := by
        rw [en]
        conv => lhs; unfold rn
      refine ⟨_, rfl, B, ws, gs, m', rfl, hl', ok', hw, hws, fun G2 s2 => ?_⟩
      have mv2 := mv.trans (Lv.of s2)
      have hl2 := hl'.same s2
      refine ⟨_, rfl, rfl, _, rfl, pick (p := ¬ hind ws gs m' = "") (c := !decide (V.str (hind ws gs m') = V.str "")) ?_ (fun e0 => ?_) (fun e0 => ?_)⟩
      · by_cases z : hind ws gs m' = ""
        · rw [decide_eq_true (congrArg V.str z), decide_eq_false (fun y => y z)]
          rfl
        · rw [decide_eq_false (fun y => z (V.str.inj y)), decide_eq_true z]
          rfl
      · rw [if_neg e0] at e4
        rw [e4] at e
        rw [e] at q
        exact ⟨_, rfl, q G2 mv2 hl2⟩
      · have z := Classical.not_not.mp e0
        rw [if_pos z] at e4
        rw [e4] at e
        obtain ⟨o3, l3, _⟩ := nxt_ok ok' hgw z
        exact ⟨_, rfl, B, ws, gs, m', rfl, hl2, ok', hw, hws, z, by omega, fun G3 mv3 hl3 => ⟨_, _, _, rfl, mv2.trans mv3, hl3, o3, by omega, e⟩⟩
    · rintro σ G ⟨m', v2, v3, rfl, mv, hl', ok', l1, e⟩
      have e2 : n - ((n : Nat) : Int).toNat = 0 := by simp
      rw [e2] at e
      rw [e] at q
      exact q G mv hl'
abbrev KnRun (P : Program) (w : World) (K : PySem.W.Frag) (mg : Str → Option Value) (base : Heap) : Prop := Kn P w K mg base CX0 4 "_law_run" ["_law_m", "_law_most"] [] (spRun K)
/-! _law_state -/
def spLSt (K : PySem.W.Frag) : Sp := fun vs H Q _ => ∃ (B : Lx) (ws gs : List Int) (m : MS), vs = [.ref B.M] ∧ LAt K H ws gs B m ∧ ∀ v H', Same H H' → Dp K H' v (stD m) → Q v H'
abbrev N__law_state : List Str := ["_law_m"]
theorem sc__law_state : FnScope ["_law_m"] ["_law_m"] (defScope s__law_state) := ⟨rfl, rfl, rfl, by decide +kernel, rfl, by decide +kernel, by decide +kernel⟩
theorem ok_lstate (F : FnP K "_law_state" s__law_state dvs f fd) (g_tuple : mg "tuple" = none) : FnOk P w K mg base CX0 1 f fd ["_law_m"] (spLSt K) := by
  refine F.ok sc__law_state (fun vs H Q E h => ?_) (fun cdv A outer s H vs Q E hr h => ?_)
  · obtain ⟨B, ws, gs, m, rfl, _⟩ := h
    rfl
  · obtain ⟨B, ws, gs, m, rfl, hl, q⟩ := h
    refine ⟨_, PSs.nox (pss_one (ps_ret (pe_tup (pa_cons (pe_callTy call_tuple_of rfl g_tuple (by decide +kernel) (pa_cons (pe_dget (hu_of hr) (pv 0) pe_str (fun _ _ => rfl)) pa_nil)) (pa_cons (pe_callTy call_tuple_of rfl g_tuple (by decide +kernel) (pa_cons (pe_dget (hu_of hr) (pv 0) pe_str (fun _ _ => rfl)) pa_nil)) (pa_cons (pe_callTy call_tuple_of rfl g_tuple (by decide +kernel) (pa_cons (pe_dget (hu_of hr) (pv 0) pe_str (fun _ _ => rfl)) pa_nil)) (pa_cons (pe_callTy call_tuple_of rfl g_tuple (by decide +kernel) (pa_cons (pe_dget (hu_of hr) (pv 0) pe_str (fun _ _ => rfl)) pa_nil)) (pa_cons (pe_dget (hu_of hr) (pv 0) pe_str (fun _ _ => rfl)) (pa_cons (pe_dget (hu_of hr) (pv 0) pe_str (fun _ _ => rfl)) pa_nil))))))))), ?_⟩
    obtain ⟨f0, hM, hf, _⟩ := hl.d
    refine ⟨_, rfl, B.M, _, rfl, dg hM q_re, B.r, _, rfl, .inl ⟨SqL.of hl.r, fun t1 ht1 => ?_⟩⟩
    have s1 : Same H (upd H t1 (.tup (vInts m.r))) := Same.add ht1
    have e1 : (upd H t1 (.tup (vInts m.r))) t1 = some (.tup (vInts m.r)) := upd_same
    generalize upd H t1 (.tup (vInts m.r)) = H1 at s1 e1 ⊢
    refine ⟨_, rfl, B.M, _, rfl, dg (s1 _ _ hM) q_fl, f0, _, rfl, .inl ⟨SqL.of (s1 _ _ hf), fun t2 ht2 => ?_⟩⟩
    have s2 : Same H1 (upd H1 t2 (.tup [V.bl m.z, V.bl m.y, V.bl m.m])) := Same.add ht2
    have e2 : (upd H1 t2 (.tup [V.bl m.z, V.bl m.y, V.bl m.m])) t2 = some (.tup [V.bl m.z, V.bl m.y, V.bl m.m]) := upd_same
    generalize upd H1 t2 (.tup [V.bl m.z, V.bl m.y, V.bl m.m]) = H2 at s2 e2 ⊢
    have s02 := Same.trans s1 s2
    refine ⟨_, rfl, B.M, _, rfl, dg (s02 _ _ hM) q_pi, B.p, _, rfl, .inl ⟨SqL.of (s02 _ _ hl.p), fun t3 ht3 => ?_⟩⟩
    have s3 : Same H2 (upd H2 t3 (.tup (vInts m.p))) := Same.add ht3
    have e3 : (upd H2 t3 (.tup (vInts m.p))) t3 = some (.tup (vInts m.p)) := upd_same
    generalize upd H2 t3 (.tup (vInts m.p)) = H3 at s3 e3 ⊢
    have s03 := Same.trans s02 s3
    refine ⟨_, rfl, B.M, _, rfl, dg (s03 _ _ hM) q_ca, B.k, _, rfl, .inl ⟨SqL.of (s03 _ _ hl.k), fun t4 ht4 => ?_⟩⟩
    have s4 : Same H3 (upd H3 t4 (.tup (vInts m.k))) := Same.add ht4
    have e4 : (upd H3 t4 (.tup (vInts m.k))) t4 = some (.tup (vInts m.k)) := upd_same
    generalize upd H3 t4 (.tup (vInts m.k)) = H4 at s4 e4 ⊢
    have s04 := Same.trans s03 s4
    refine ⟨_, rfl, B.M, _, rfl, dg (s04 _ _ hM) q_pl, _, rfl, B.M, _, rfl, dg (s04 _ _ hM) q_do, line5 (by simp), fun t5 ht5 => ?_⟩
    have s5 : Same H4 (upd H4 t5 (.tup [V.ref t1, V.ref t2, V.ref t3, V.ref t4, V.int (m.g : Nat), V.int (m.n : Nat)])) := Same.add ht5
    have e5 : (upd H4 t5 (.tup [V.ref t1, V.ref t2, V.ref t3, V.ref t4, V.int (m.g : Nat), V.int (m.n : Nat)])) t5 = some (.tup [V.ref t1, V.ref t2, V.ref t3, V.ref t4, V.int (m.g : Nat), V.int (m.n : Nat)]) := upd_same
    generalize upd H4 t5 (.tup [V.ref t1, V.ref t2, V.ref t3, V.ref t4, V.int (m.g : Nat), V.int (m.n : Nat)]) = H5 at s5 e5 ⊢
    have s25 := Same.trans s2 (Same.trans s3 (Same.trans s4 s5))
    have s35 := Same.trans s3 (Same.trans s4 s5)
    have s45 := Same.trans s4 s5
    exact q _ H5 (Same.trans s04 s5) (.tup (SqT.of e5) (.cons (.tup (SqT.of (s25 _ _ e1)) (dp_ints _)) (.cons (.tup (SqT.of (s35 _ _ e2)) (.cons (.bl _) (.cons (.bl _) (.cons (.bl _) .nil)))) (.cons (.tup (SqT.of (s45 _ _ e3)) (dp_ints _)) (.cons (.tup (SqT.of (s5 _ _ e4)) (dp_ints _)) (.cons (.int _) (.cons (.int _) .nil)))))))
abbrev KnLSt (P : Program) (w : World) (K : PySem.W.Frag) (mg : Str → Option Value) (base : Heap) : Prop := Kn P w K mg base CX0 1 "_law_state" ["_law_m"] [] (spLSt K)
end
end Bm
set_option maxHeartbeats 800000
namespace Bm
open PySem PySem.Spec PyProof.Rows L2
/-! a list's words at work, beside the list -/
theorem imgI_pre {ls : List Ld} : ∀ j i, i + j = ls.length → ∃ r, imgL ls = imgI ls i ++ r
  | 0, i, h => ⟨[], by rw [List.append_nil, show i = ls.length by omega]; rfl⟩
  | j + 1, i, h => by
    obtain ⟨r, e⟩ := imgI_pre (ls := ls) j (i + 1) (by omega)
    have hx := List.getElem?_eq_getElem (show i < ls.length by omega)
    rw [imgI_next hx, List.append_assoc] at e
    exact ⟨_, e⟩
theorem img_at {ls : List Ld} (hd : ∀ x ∈ ls, x.1.ok) (hl : ls.length ≤ 1000) {k : Nat} {x : Ld} (hx : ls[k]? = some x) : atD (imgL ls) (lay (szL ls) k) = some (wholeD (szL ls) k x) := by
  have hk := (List.getElem?_eq_some_iff.mp hx).1
  refine atD_some ⟨whole_ok (hd x (List.mem_of_getElem? hx)) hl, whole_reached hx, ?_⟩
  obtain ⟨r, e⟩ := imgI_pre (ls := ls) (ls.length - (k + 1)) (k + 1) (by omega)
  rw [e, imgI_next hx, List.append_assoc, ← imgI_len k (Nat.le_of_lt hk), List.drop_left, List.take_left]
theorem lay_end {ls : List Ld} {g : Nat} (h : ls.length ≤ g) : lay (szL ls) g = (imgL ls).length := by
  rw [imgL_len]
  unfold sizeL lay
  rw [List.take_of_length_le (by rw [szL_len]; exact h), List.take_of_length_le (by rw [szL_len]; exact Nat.le_refl _)]
theorem act_n (x : Ld) (gs : List Int) (m : MS) : ((dL x).act gs (m.past 1)).n = m.n + 1 := (act_s (dL x) gs (m.past 1)).2
def ImR (ls : List Ld) (m mI : MS) : Prop := mI = relab (lay (szL ls)) m m.n
theorem im_hind {ls : List Ld} (hd : ∀ x ∈ ls, x.1.ok) (hl : ls.length ≤ 1000) {gs : List Int} {m mI : MS} (r : ImR ls m mI) : hind (imgL ls) gs mI = hindL ls gs m ∧ mI.s = m.s := by
  unfold ImR at r
  subst r
  refine ⟨?_, rfl⟩
  show hind (imgL ls) gs (relab (lay (szL ls)) m m.n) = _
  unfold hind hindL
  have eg : (relab (lay (szL ls)) m m.n).g = lay (szL ls) m.g := rfl
  rw [eg]
  cases c : ls[m.g]? with
  | none => rw [if_pos (Nat.le_of_eq (lay_end (List.getElem?_eq_none_iff.mp c)).symm)]
  | some x =>
    have ha := img_at hd hl c
    rw [if_neg (Nat.not_le_of_lt (at_lt (atD_is ha)).1), ha]
    show (wholeD (szL ls) m.g x).hin gs _ = x.1.hin gs m
    unfold wholeD
    rw [hin_put, hin_relab]
theorem im_nxt {ls : List Ld} (hd : ∀ x ∈ ls, x.1.ok) (hl : ls.length ≤ 1000) {gs : List Int} {m mI : MS} (r : ImR ls m mI) (h : hindL ls gs m = "") : ImR ls (nxtL ls gs m) (nxt (imgL ls) gs mI) := by
  unfold ImR at r ⊢
  subst r
  cases c : ls[m.g]? with
  | none =>
    unfold hindL at h
    rw [c] at h
    exact absurd h beyond_ne
  | some x =>
    rw [hindL_at c] at h
    have ha := img_at hd hl c
    obtain ⟨s, h1, h2⟩ := whole_words c (lay (szL ls) m.g : Nat)
    rw [nxtL_at c, nxt_some (m := relab (lay (szL ls)) m m.n) ha, act_n]
    have e : ((wholeD (szL ls) m.g x).words ((relab (lay (szL ls)) m m.n).g : Nat)).length = s := h2
    rw [e]
    exact act_relab (lay_next h1) h
theorem img_stops {ls : List Ld} (hd : ∀ x ∈ ls, x.1.ok) (hl : ls.length ≤ 1000) {gs : List Int} {c : Nat} {why : Str} {s : List Int} : Stops (hind (imgL ls) gs) (nxt (imgL ls) gs) c MS.new why s ↔ StopsL ls gs c why s := by
  have e0 : ImR ls MS.new MS.new := new_relab _ rfl
  constructor
  · exact Stops.step (fun mI m => ImR ls m mI) (fun mI m r => ⟨(im_hind hd hl r).1.symm, (im_hind (gs := gs) hd hl r).2.symm⟩) (fun mI m r h => im_nxt hd hl r ((im_hind hd hl r).1.symm.trans h)) e0
  · exact Stops.step (fun m mI => ImR ls m mI) (fun m mI r => im_hind hd hl r) (fun m mI r h => im_nxt hd hl r h) e0
/-! a run of so many at the most -/
theorem nxt_n {ws gs : List Int} {m : MS} (h : hind ws gs m = "") : (nxt ws gs m).n = m.n + 1 := by
  obtain ⟨d, hat, _⟩ := hind_nil h
  rw [nxt_some hat]
  exact (act_s d gs _).2
theorem rn_stops {ws gs : List Int} : ∀ {n : Nat} {m : MS}, (rn ws gs n m).1 ≠ "" → ∃ c, c < n ∧ Stops (hind ws gs) (nxt ws gs) c m (rn ws gs n m).1 (rn ws gs n m).2.s ∧ (rn ws gs n m).2.n = m.n + c
  | 0, m, h => absurd rfl h
  | n + 1, m, h => by
    unfold rn at h ⊢
    by_cases c : hind ws gs m = ""
    · rw [if_pos c] at h ⊢
      obtain ⟨k, h1, h2, h3⟩ := rn_stops h
      refine ⟨k + 1, by omega, .next c h2, ?_⟩
      rw [h3, nxt_n c]
      omega
    · rw [if_neg c] at h ⊢
      exact ⟨0, Nat.succ_pos _, .stop rfl c, rfl⟩
theorem stops_rn {ws gs : List Int} : ∀ {c : Nat} {m : MS} {why : Str} {s : List Int}, Stops (hind ws gs) (nxt ws gs) c m why s → ∀ n, c < n → (rn ws gs n m).1 = why ∧ (rn ws gs n m).2.s = s ∧ (rn ws gs n m).2.n = m.n + c
  | 0, m, why, _, .stop h z, n + 1, _ => by
    unfold rn
    rw [if_neg (by rw [h]; exact z)]
    exact ⟨h, rfl, rfl⟩
  | c + 1, m, why, s, .next h t, n + 1, hn => by
    unfold rn
    rw [if_pos h]
    obtain ⟨h1, h2, h3⟩ := stops_rn t n (by omega)
    refine ⟨h1, h2, ?_⟩
    rw [h3, nxt_n h]
    omega
/-- made lean, it says the same -/
theorem lean_says {ls : List Ld} (ok : OkL ls) (hd : ∀ x ∈ ls, x.1.ok) (hl : ls.length ≤ 1000) {gs : List Int} {n : Nat} (h : (rn (imgL ls) gs n MS.new).1 ≠ "") {n2 : Nat} (h2 : (rn (imgL ls) gs n MS.new).2.n < n2) :
    (rn (imgL (leanL ls)) gs n2 MS.new).1 = (rn (imgL ls) gs n MS.new).1 ∧ (rn (imgL (leanL ls)) gs n2 MS.new).2.s = (rn (imgL ls) gs n MS.new).2.s ∧ (rn (imgL (leanL ls)) gs n2 MS.new).2.n ≤ (rn (imgL ls) gs n MS.new).2.n := by
  obtain ⟨c, _, s1, e⟩ := rn_stops h
  obtain ⟨c2, l2, s2⟩ := lean_stops ok ((img_stops hd hl).mp s1)
  have s3 := (img_stops (leanN_fst (P := De.ok) hd _) (Nat.le_trans (lean_le ls) hl)).mpr s2
  have en : MS.new.n = 0 := rfl
  obtain ⟨a1, a2, a3⟩ := stops_rn s3 n2 (by omega)
  unfold leanL
  exact ⟨a1, a2, by omega⟩
end Bm
set_option maxHeartbeats 1000000
namespace Bm
open PySem PySem.Spec PyProof.Rows L2
def kvA (i g r c f : V) : List (Key × V) := [(.inr "image", i), (.inr "given", g), (.inr "used", .int 0), (.inr "r", r), (.inr "cells", c), (.inr "flags", f)]
def kvB (p k t : V) : List (Key × V) := [(.inr "pile", p), (.inr "calls", k), (.inr "place", .int 0), (.inr "told", t), (.inr "done", .int 0)]
theorem kvA_m {i g r c f : V} : mergeK [] (kvA i g r c f) = kvA i g r c f := by kernel_rfl
theorem kvB_m {p k t : V} : mergeK [] (kvB p k t) = kvB p k t := by kernel_rfl
theorem kvAB {B : Lx} {f : V} : mergeK (kvA (.ref B.i) (.ref B.g) (.ref B.r) (.ref B.c) f) (kvB (.ref B.p) (.ref B.k) (.ref B.t)) = B.kv (.int 0) f (.int 0) (.int 0) := by kernel_rfl
theorem none_of {H H' : Hp} {a : Addr} (e : Same H H') (h : H' a = none) : H a = none := by
  cases c : H a with
  | none => rfl
  | some u =>
    rw [e _ _ c] at h
    cases h
theorem ne_new {H : Hp} {a b : Addr} {o : HO} (h : H b = some o) (n : H a = none) : a ≠ b := fun z => by
  rw [z, h] at n
  cases n
section
variable {P : Program} {w : World} {K : PySem.W.Frag} {mg : Str → Option Value} {base : Heap} {f : Addr} {fd : FuncData} {dvs : List V}
/-! _law_mill -/
def spLMill (K : PySem.W.Frag) : Sp := fun vs H Q _ => ∃ (i g : Addr) (ws gs : List Int), vs = [.ref i, .ref g] ∧ SqT K H i (vInts ws) ∧ SqL K H g (vInts gs) ∧ ∀ (B : Lx) H', Same H H' → B.i = i → (∀ x ∈ ([B.M, B.g, B.r, B.c, B.p, B.k, B.t] : List Addr), H x = none) → LAt K H' ws gs B MS.new → Q (.ref B.M) H'
abbrev N__law_mill : List Str := ["_law_image_here", "_law_given_here", "_law_m"]
theorem sc__law_mill : FnScope ["_law_image_here", "_law_given_here", "_law_m"] ["_law_image_here", "_law_given_here"] (defScope s__law_mill) := ⟨rfl, rfl, rfl, by decide +kernel, rfl, by decide +kernel, by decide +kernel⟩
theorem ok_lmill (F : FnP K "_law_mill" s__law_mill dvs f fd) (g_list : mg "list" = none) : FnOk P w K mg base CX0 1 f fd ["_law_image_here", "_law_given_here"] (spLMill K) := by
  refine F.ok sc__law_mill (fun vs H Q E h => ?_) (fun cdv A outer s H vs Q E hr h => ?_)
  · obtain ⟨i, g, ws, gs, rfl, _⟩ := h
    rfl
  · obtain ⟨i, g, ws, gs, rfl, hi, hg, q⟩ := h
    refine ⟨_, PSs.nox (pss_cons (ps_set (i := 2) sc__law_mill.nd rfl (Or.inl rfl) (pe_disp (L2.pps_cons pe_str (pv 0) (L2.pps_cons pe_str (pe_callTy call_list_of rfl g_list (by decide +kernel) (pa_cons (pv 1) pa_nil)) (L2.pps_cons pe_str pe_int (L2.pps_cons pe_str (pe_op op_rep (pe_lst (pa_cons pe_int pa_nil)) pe_int) (L2.pps_cons pe_str (pe_op op_rep (pe_lst (pa_cons pe_int pa_nil)) pe_int) (L2.pps_cons pe_str (pe_op op_rep (pe_lst (pa_cons pe_bl pa_nil)) pe_int) L2.pps_nil)))))) rfl rfl (fun z => by cases z) (by decide)))
      (pss_cons (ps_expr (pe_bm PySem.F.plainAttrs_dict PySem.F.slot_dict_update PySem.F.type_dict_update mt_dupd (pv 2) (pa_cons (pe_disp (L2.pps_cons pe_str (pe_lst pa_nil) (L2.pps_cons pe_str (pe_lst pa_nil) (L2.pps_cons pe_str pe_int (L2.pps_cons pe_str (pe_lst pa_nil) (L2.pps_cons pe_str pe_int L2.pps_nil))))) rfl rfl (fun z => by cases z) (by decide)) pa_nil)))
      (pss_one (ps_ret (pv 2))))), ?_⟩
    refine fun M hM => ?_
    have kM : Same H (upd H M (.dK [])) := Same.add hM
    have eM : upd H M (.dK []) M = some (.dK []) := upd_same
    generalize upd H M (.dK []) = H0 at kM eM ⊢
    refine ⟨_, rfl, _, rfl, g, vInts gs, rfl, .inl (kM.seq hg), fun lg hlg => ?_⟩
    have s1 : Same H0 (upd H0 lg (.lst (vInts gs))) := Same.add hlg
    have e1 : (upd H0 lg (.lst (vInts gs))) lg = some (.lst (vInts gs)) := upd_same
    generalize upd H0 lg (.lst (vInts gs)) = H1 at s1 e1 ⊢
    refine ⟨line5 (by simp), fun z1 hz1 => ?_⟩
    have s2 : Same H1 (upd H1 z1 (.lst [V.int 0])) := Same.add hz1
    have e2 : (upd H1 z1 (.lst [V.int 0])) z1 = some (.lst [V.int 0]) := upd_same
    generalize upd H1 z1 (.lst [V.int 0]) = H2 at s2 e2 ⊢
    refine ⟨z1, 8, _, rfl, rfl, e2, by decide, by decide, line5 (by simp), fun lr hlr => ?_⟩
    have s3 : Same H2 (upd H2 lr (.lst (List.replicate (8 : Int).toNat [V.int 0]).flatten)) := Same.add hlr
    have e3 : (upd H2 lr (.lst (List.replicate (8 : Int).toNat [V.int 0]).flatten)) lr = some (.lst (List.replicate (8 : Int).toNat [V.int 0]).flatten) := upd_same
    generalize upd H2 lr (.lst (List.replicate (8 : Int).toNat [V.int 0]).flatten) = H3 at s3 e3 ⊢
    refine ⟨line5 (by simp), fun z2 hz2 => ?_⟩
    have s4 : Same H3 (upd H3 z2 (.lst [V.int 0])) := Same.add hz2
    have e4 : (upd H3 z2 (.lst [V.int 0])) z2 = some (.lst [V.int 0]) := upd_same
    generalize upd H3 z2 (.lst [V.int 0]) = H4 at s4 e4 ⊢
    refine ⟨z2, 64, _, rfl, rfl, e4, by decide, by decide, line5 (by simp), fun lc hlc => ?_⟩
    have s5 : Same H4 (upd H4 lc (.lst (List.replicate (64 : Int).toNat [V.int 0]).flatten)) := Same.add hlc
    have e5 : (upd H4 lc (.lst (List.replicate (64 : Int).toNat [V.int 0]).flatten)) lc = some (.lst (List.replicate (64 : Int).toNat [V.int 0]).flatten) := upd_same
    generalize upd H4 lc (.lst (List.replicate (64 : Int).toNat [V.int 0]).flatten) = H5 at s5 e5 ⊢
    refine ⟨line5 (by simp), fun z3 hz3 => ?_⟩
    have s6 : Same H5 (upd H5 z3 (.lst [V.bl false])) := Same.add hz3
    have e6 : (upd H5 z3 (.lst [V.bl false])) z3 = some (.lst [V.bl false]) := upd_same
    generalize upd H5 z3 (.lst [V.bl false]) = H6 at s6 e6 ⊢
    refine ⟨z3, 3, _, rfl, rfl, e6, by decide, by decide, line5 (by simp), fun lf hlf => ?_⟩
    have s7 : Same H6 (upd H6 lf (.lst (List.replicate (3 : Int).toNat [V.bl false]).flatten)) := Same.add hlf
    have e7 : (upd H6 lf (.lst (List.replicate (3 : Int).toNat [V.bl false]).flatten)) lf = some (.lst (List.replicate (3 : Int).toNat [V.bl false]).flatten) := upd_same
    generalize upd H6 lf (.lst (List.replicate (3 : Int).toNat [V.bl false]).flatten) = H7 at s7 e7 ⊢
    have k02 := Same.trans s1 s2
    have k03 := Same.trans k02 s3
    have k04 := Same.trans k03 s4
    have k05 := Same.trans k04 s5
    have k06 := Same.trans k05 s6
    have k07 := Same.trans k06 s7
    refine ⟨k07 _ _ eM, kvA (.ref i) (.ref lg) (.ref lr) (.ref lc) (.ref lf), rfl, Nat.le_of_ble_eq_true rfl, ?_⟩
    rw [kvA_m]
    have mM := same_mut (o := .dK (kvA (.ref i) (.ref lg) (.ref lr) (.ref lc) (.ref lf))) (Same.trans kM k07) hM
    have e8 : upd H7 M (.dK (kvA (.ref i) (.ref lg) (.ref lr) (.ref lc) (.ref lf))) M = _ := upd_same
    have nM : ∀ {b : Addr} {l : List V}, H7 b = some (.lst l) → upd H7 M (.dK (kvA (.ref i) (.ref lg) (.ref lr) (.ref lc) (.ref lf))) b = some (.lst l) := fun h => by
      rw [upd_ne (ne_dl h (k07 _ _ eM))]
      exact h
    have x1 := nM (Same.trans s2 (Same.trans s3 (Same.trans s4 (Same.trans s5 (Same.trans s6 s7)))) _ _ e1)
    have x3 := nM (Same.trans s4 (Same.trans s5 (Same.trans s6 s7)) _ _ e3)
    have x5 := nM (Same.trans s6 s7 _ _ e5)
    have x7 := nM e7
    generalize upd H7 M (.dK (kvA (.ref i) (.ref lg) (.ref lr) (.ref lc) (.ref lf))) = H8 at mM e8 nM x1 x3 x5 x7 ⊢
    refine ⟨_, rfl, .inr (.inr (.inl ⟨rfl, .inl ⟨_, e8⟩⟩)), fun M2 hM2 => ?_⟩
    have k9 : Same H8 (upd H8 M2 (.dK [])) := Same.add hM2
    have e9 : upd H8 M2 (.dK []) M2 = some (.dK []) := upd_same
    generalize upd H8 M2 (.dK []) = H9 at k9 e9 ⊢
    refine ⟨line5 (by simp), fun lp hlp => ?_⟩
    have s10 : Same H9 (upd H9 lp (.lst ([] : List V))) := Same.add hlp
    have e10 : (upd H9 lp (.lst ([] : List V))) lp = some (.lst ([] : List V)) := upd_same
    generalize upd H9 lp (.lst ([] : List V)) = H10 at s10 e10 ⊢
    refine ⟨line5 (by simp), fun lk hlk => ?_⟩
    have s11 : Same H10 (upd H10 lk (.lst ([] : List V))) := Same.add hlk
    have e11 : (upd H10 lk (.lst ([] : List V))) lk = some (.lst ([] : List V)) := upd_same
    generalize upd H10 lk (.lst ([] : List V)) = H11 at s11 e11 ⊢
    refine ⟨line5 (by simp), fun lt hlt => ?_⟩
    have s12 : Same H11 (upd H11 lt (.lst ([] : List V))) := Same.add hlt
    have e12 : (upd H11 lt (.lst ([] : List V))) lt = some (.lst ([] : List V)) := upd_same
    generalize upd H11 lt (.lst ([] : List V)) = H12 at s12 e12 ⊢
    have k911 := Same.trans s10 s11
    have k912 := Same.trans k911 s12
    refine ⟨k912 _ _ e9, kvB (.ref lp) (.ref lk) (.ref lt), rfl, Nat.le_of_ble_eq_true rfl, ?_⟩
    rw [kvB_m]
    have nM2 : M2 ≠ M := ne_new e8 hM2
    have kH12 := Same.trans mM (Same.trans k9 k912)
    have hM20 : H M2 = none := none_of mM hM2
    refine ⟨M, M2, kvA (.ref i) (.ref lg) (.ref lr) (.ref lc) (.ref lf), kvB (.ref lp) (.ref lk) (.ref lt), rfl, rfl, nM2.symm, ?_, upd_same, Nat.le_of_ble_eq_true rfl, ?_⟩
    · rw [upd_ne nM2.symm]
      exact k912 _ _ (k9 _ _ e8)
    have kF := same_mut (o := .dK (mergeK (kvA (.ref i) (.ref lg) (.ref lr) (.ref lc) (.ref lf)) (kvB (.ref lp) (.ref lk) (.ref lt)))) (same_mut (o := .dK (kvB (.ref lp) (.ref lk) (.ref lt))) kH12 hM20) hM
    have k812 := Same.trans k9 k912
    have toF : ∀ {b : Addr} {l : List V}, H12 b = some (.lst l) → upd (upd H12 M2 (.dK (kvB (.ref lp) (.ref lk) (.ref lt)))) M (.dK (mergeK (kvA (.ref i) (.ref lg) (.ref lr) (.ref lc) (.ref lf)) (kvB (.ref lp) (.ref lk) (.ref lt)))) b = some (.lst l) := fun h => by
      rw [upd_ne (ne_dl h (k812 _ _ e8)), upd_ne (ne_dl h (k912 _ _ e9))]
      exact h
    have f0 : H lg = none := none_of kM hlg
    have f1 : H lr = none := none_of (Same.trans kM k02) hlr
    have f2 : H lc = none := none_of (Same.trans kM k04) hlc
    have f3 : H lp = none := none_of (Same.trans mM k9) hlp
    have f4 : H lk = none := none_of (Same.trans mM (Same.trans k9 s10)) hlk
    have f5 : H lt = none := none_of (Same.trans mM (Same.trans k9 k911)) hlt
    have g1 : H1 lg = some (.lst (vInts gs)) := e1
    have a1 : lr ≠ lg := ne_new (s2 _ _ e1) hlr
    have a2 : lc ≠ lg := ne_new ((Same.trans s2 (Same.trans s3 s4)) _ _ e1) hlc
    have a3 : lc ≠ lr := ne_new (s4 _ _ e3) hlc
    have b1 : lf ≠ lg := ne_new ((Same.trans s2 (Same.trans s3 (Same.trans s4 (Same.trans s5 s6)))) _ _ e1) hlf
    have b2 : lf ≠ lr := ne_new ((Same.trans s4 (Same.trans s5 s6)) _ _ e3) hlf
    have b3 : lf ≠ lc := ne_new (s6 _ _ e5) hlf
    have c1 : lp ≠ lg := ne_new (k9 _ _ x1) hlp
    have c2 : lp ≠ lr := ne_new (k9 _ _ x3) hlp
    have c3 : lp ≠ lc := ne_new (k9 _ _ x5) hlp
    have c4 : lp ≠ lf := ne_new (k9 _ _ x7) hlp
    have kA := Same.trans k9 s10
    have d1 : lk ≠ lg := ne_new (kA _ _ x1) hlk
    have d2 : lk ≠ lr := ne_new (kA _ _ x3) hlk
    have d3 : lk ≠ lc := ne_new (kA _ _ x5) hlk
    have d4 : lk ≠ lf := ne_new (kA _ _ x7) hlk
    have d5 : lk ≠ lp := ne_new e10 hlk
    have kB := Same.trans k9 k911
    have t1 : lt ≠ lg := ne_new (kB _ _ x1) hlt
    have t2 : lt ≠ lr := ne_new (kB _ _ x3) hlt
    have t3 : lt ≠ lc := ne_new (kB _ _ x5) hlt
    have t4 : lt ≠ lf := ne_new (kB _ _ x7) hlt
    have t5 : lt ≠ lp := ne_new (s11 _ _ e10) hlt
    have t6 : lt ≠ lk := ne_new e11 hlt
    refine ⟨_, rfl, q ⟨M, i, lg, lr, lc, lp, lk, lt⟩ _ kF rfl ?_ ⟨⟨lf, ?_, toF (k812 _ _ x7), b2, b3, c4.symm, d4.symm, t4.symm, b1⟩, Same.tup kF hi, toF (k812 _ _ x1), toF (k812 _ _ x3), toF (k812 _ _ x5), toF ((Same.trans s11 s12) _ _ e10), toF (s12 _ _ e11), toF e12, ?_⟩⟩
    · intro x hx
      simp only [List.mem_cons, List.not_mem_nil, or_false] at hx
      rcases hx with rfl | rfl | rfl | rfl | rfl | rfl | rfl <;> assumption
    · exact upd_same.trans (congrArg (fun l => some (HO.dK l)) (kvAB (B := ⟨M, i, lg, lr, lc, lp, lk, lt⟩)))
    · simp only [List.nodup_cons, List.mem_cons, List.not_mem_nil, or_false, not_or, not_false_eq_true, List.nodup_nil, and_true]
      exact ⟨⟨a1.symm, a2.symm, c1.symm, d1.symm, t1.symm⟩, ⟨a3.symm, c2.symm, d2.symm, t2.symm⟩, ⟨c3.symm, d3.symm, t3.symm⟩, ⟨d5.symm, t5.symm⟩, t6.symm⟩
abbrev KnLMill (P : Program) (w : World) (K : PySem.W.Frag) (mg : Str → Option Value) (base : Heap) : Prop := Kn P w K mg base CX0 1 "_law_mill" ["_law_image_here", "_law_given_here"] [] (spLMill K)
end
end Bm
set_option maxHeartbeats 1600000
namespace Bm
open PySem PySem.Spec PyProof.Rows L2
theorem at_mem {l : List Int} {r : Int} (h0 : 0 ≤ r) (h1 : r < l.length) : ∃ x, atI (vInts l) r = some (.int x) ∧ x ∈ l := by
  obtain ⟨n, rfl⟩ := Int.eq_ofNat_of_zero_le h0
  have hn : n < l.length := by omega
  refine ⟨l[n], atI_nat ?_, List.getElem_mem hn⟩
  unfold vInts
  rw [List.getElem?_map, List.getElem?_eq_getElem hn]
  rfl
section
variable {P : Program} {w : World} {K : PySem.W.Frag} {mg : Str → Option Value} {base : Heap} {f g : Addr} {fd fk : FuncData} {dvs : List V}
/-! _law_given -/
def spLGiv (K : PySem.W.Frag) : Sp := fun vs H Q _ => ∃ S : Sk, vs = [.ref S.st] ∧ St K H S ∧ ∀ (p : Addr) (gs : List Int) H', Kp K S H H' → H' p = some (.lst (vInts gs)) → (∀ x ∈ gs, isWd x) → gs.length ≤ 8 → Q (.ref p) H'
abbrev N__law_given : List Str := ["_law_state_here", "_law_found", "_law_k"]
theorem sc__law_given : FnScope ["_law_state_here", "_law_found", "_law_k"] ["_law_state_here"] (defScope s__law_given) := ⟨rfl, rfl, rfl, by decide +kernel, rfl, by decide +kernel, by decide +kernel⟩
theorem ok_lgiv (F : FnP K "_law_given" s__law_given dvs f fd) (k__law_drawn : KnDr P w K mg base) (g_range : mg "range" = none) : FnOk P w K mg base CX0 2 f fd ["_law_state_here"] (spLGiv K) := by
  refine F.ok sc__law_given (fun vs H Q E h => ?_) (fun cdv A outer s H vs Q E hr h => ?_)
  · obtain ⟨S, rfl, _⟩ := h
    rfl
  · obtain ⟨S, rfl, hst, q⟩ := h
    refine ⟨_, PSs.nox (pss_cons (ps_set (i := 1) sc__law_given.nd rfl (Or.inl rfl) (pe_lst pa_nil))
      (pss_cons (ps_for PassesOwn.never rfl (pi_range1 rfl g_range (pa_cons (pk k__law_drawn hr (by decide) rfl pass0 (pa_cons (pv 0) (pa_cons pe_int pa_nil))) pa_nil)) (pg_name (i := 2) sc__law_given.nd rfl (Or.inl rfl))
      (pss_one (ps_expr (pe_bm PySem.F.plainAttrs_list PySem.F.slot_list_append PySem.F.type_list_append mt_append (pv 1) (pa_cons (pe_ix ix_list (pe_lst (pa_cons (pk k__law_drawn hr (by decide) rfl pass0 (pa_cons (pv 0) (pa_cons pe_int pa_nil))) (pa_cons (pk k__law_drawn hr (by decide) rfl pass0 (pa_cons (pv 0) (pa_cons pe_int pa_nil))) (pa_cons pe_int (pa_cons pe_int pa_nil))))) (pk k__law_drawn hr (by decide) rfl pass0 (pa_cons (pv 0) (pa_cons pe_int pa_nil))) (fun _ _ => rfl)) pa_nil)))))
      (pss_one (ps_ret (pv 1))))), ?_⟩
    refine ⟨line5 (by simp), fun L hL => ?_⟩
    have nL : L ≠ S.st := by
      obtain ⟨l, hl⟩ := hst.lst
      exact ne_new hl hL
    have s1 : Same H (upd H L (.lst ([] : List V))) := Same.add hL
    have e1 : (upd H L (.lst ([] : List V))) L = some (.lst ([] : List V)) := upd_same
    generalize upd H L (.lst ([] : List V)) = H1 at s1 e1 ⊢
    have k1 : Kp K S H H1 := Kp.of hst s1
    refine ⟨_, rfl, S, 9, rfl, k1.st, by decide, by decide, fun n Ga a0 a1 ka => ?_⟩
    refine ⟨_, rfl, by omega, by omega, for_range (n := n.toNat) (fun i σ G => ∃ (gs : List Int) (v2 : Option V), σ = [some (.ref S.st), some (.ref L), v2] ∧ Kp K S H G ∧ G L = some (.lst (vInts gs)) ∧ (∀ x ∈ gs, isWd x) ∧ gs.length ≤ i)
      ⟨[], none, rfl, k1.trans ka, ka.but _ _ nL e1, (fun x h => by cases h), Nat.le_refl _⟩ ?_ ?_⟩
    · rintro i σ G hi ⟨gs, v2, rfl, kG, hG, hg, hl⟩
      have hi : i < 8 := by omega
      refine ⟨_, rfl, .inl ⟨rfl, _, SqL.of hG⟩, _, rfl, S, 9, rfl, kG.st, by decide, by decide, fun r1 Gb b0 b1 kb => ?_⟩
      refine ⟨_, rfl, S, 65536, rfl, kb.st, by decide, by decide, fun r2 Gc c0 c1 kc => ⟨line5 (by simp), fun l9 hl9 => ?_⟩⟩
      have n9 : l9 ≠ S.st := by
        obtain ⟨l, hl⟩ := kc.st.lst
        exact ne_new hl hl9
      have sd : Same Gc (upd Gc l9 (.lst [V.int r1, V.int r2, V.int 65535, V.int 32768])) := Same.add hl9
      have ed : (upd Gc l9 (.lst [V.int r1, V.int r2, V.int 65535, V.int 32768])) l9 = some (.lst [V.int r1, V.int r2, V.int 65535, V.int 32768]) := upd_same
      generalize upd Gc l9 (.lst [V.int r1, V.int r2, V.int 65535, V.int 32768]) = Gd at sd ed ⊢
      have kd := (kb.trans kc).trans (Kp.of kc.st sd)
      refine ⟨_, rfl, S, 4, rfl, kd.st, by decide, by decide, fun r4 Ge e0 e1 ke => ?_⟩
      obtain ⟨x, hx, hxm⟩ := at_mem (l := [r1, r2, 65535, 32768]) e0 e1
      refine ⟨l9, _, _, _, rfl, rfl, SqL.of (ke.but _ _ n9 ed), hx, L, _, _, rfl, rfl, (kd.trans ke).but _ _ nL hG, line_lt' (by rw [ints_len]; omega), ?_⟩
      rw [ints_one]
      refine ⟨gs ++ [x], _, rfl, (kG.trans (kd.trans ke)).mut hL, upd_same, fun y hy => ?_, by rw [List.length_append]; simp; omega⟩
      rcases List.mem_append.mp hy with z | z
      · exact hg y z
      · rw [List.mem_singleton.mp z]
        simp only [List.mem_cons, List.not_mem_nil, or_false] at hxm
        unfold isWd
        omega
    · rintro σ G ⟨gs, v2, rfl, kG, hG, hg, hl⟩
      exact ⟨_, rfl, q L gs G kG hG hg (by omega)⟩
abbrev KnLGiv (P : Program) (w : World) (K : PySem.W.Frag) (mg : Str → Option Value) (base : Heap) : Prop := Kn P w K mg base CX0 2 "_law_given" ["_law_state_here"] [] (spLGiv K)
end
end Bm
set_option maxHeartbeats 800000
namespace Bm
open PySem PySem.Spec PyProof.Rows L2
theorem words_fit (d : De) (p : Int) (h : d.ok) : ∀ x ∈ d.words p, 0 ≤ x ∧ x < 65536 := by
  have one : ∀ {y : Int}, 0 ≤ y ∧ y < 65536 → ∀ x ∈ [y], 0 ≤ x ∧ x < 65536 := fun e x hx => by rw [List.mem_singleton.mp hx]; exact e
  have two : ∀ {y z : Int}, 0 ≤ y ∧ y < 65536 → 0 ≤ z ∧ z < 65536 → ∀ x ∈ [y, z], 0 ≤ x ∧ x < 65536 := fun e f x hx => by
    rcases List.mem_cons.mp hx with rfl | hx
    · exact e
    · rw [List.mem_singleton.mp hx]; exact f
  cases d with
  | sgl k => exact one (by have : k < 3 := h; show 0 ≤ (k : Int) * 512 ∧ (k : Int) * 512 < 65536; omega)
  | reg k a => exact one (by obtain ⟨h1, h2, h3⟩ := h; have h3 : 0 ≤ a ∧ a ≤ 7 := h3; show 0 ≤ (k : Int) * 512 + a * 64 ∧ (k : Int) * 512 + a * 64 < 65536; omega)
  | sum k d a b => exact one (by obtain ⟨h1, h2, h3, h4⟩ := h; have h2 : 0 ≤ d ∧ d ≤ 7 := h2; have h3 : 0 ≤ a ∧ a ≤ 7 := h3; have h4 : 0 ≤ b ∧ b ≤ 7 := h4; show 0 ≤ 4096 + d * 512 + a * 64 + b * 8 + (k : Int) ∧ 4096 + d * 512 + a * 64 + b * 8 + (k : Int) < 65536; omega)
  | plus d a n => exact one (by obtain ⟨h2, h3, h4⟩ := h; have h2 : 0 ≤ d ∧ d ≤ 7 := h2; have h3 : 0 ≤ a ∧ a ≤ 7 := h3; show 0 ≤ 8192 + d * 512 + a * 64 + n % 64 ∧ 8192 + d * 512 + a * 64 + n % 64 < 65536; omega)
  | set d n => exact one (by obtain ⟨h2, h4⟩ := h; have h2 : 0 ≤ d ∧ d ≤ 7 := h2; show 0 ≤ 12288 + d * 512 + n ∧ 12288 + d * 512 + n < 65536; omega)
  | high d n => exact one (by obtain ⟨h2, h4⟩ := h; have h2 : 0 ≤ d ∧ d ≤ 7 := h2; show 0 ≤ 16384 + d * 512 + n ∧ 16384 + d * 512 + n < 65536; omega)
  | load d a n => exact one (by obtain ⟨h2, h3, h4⟩ := h; have h2 : 0 ≤ d ∧ d ≤ 7 := h2; have h3 : 0 ≤ a ∧ a ≤ 7 := h3; show 0 ≤ 20480 + d * 512 + a * 64 + n ∧ 20480 + d * 512 + a * 64 + n < 65536; omega)
  | store d a n => exact one (by obtain ⟨h2, h3, h4⟩ := h; have h2 : 0 ≤ d ∧ d ≤ 7 := h2; have h3 : 0 ≤ a ∧ a ≤ 7 := h3; show 0 ≤ 24576 + d * 512 + a * 64 + n ∧ 24576 + d * 512 + a * 64 + n < 65536; omega)
  | jump k g f =>
    obtain ⟨h1, h2⟩ := h
    cases f with
    | true => exact two (by omega) (by omega)
    | false => exact one (by show 0 ≤ 28672 + (k : Int) * 512 + (g - p - 1) % 32 ∧ 28672 + (k : Int) * 512 + (g - p - 1) % 32 < 65536; omega)
  | call g f =>
    have h : 0 ≤ g ∧ g ≤ 65535 := h
    cases f with
    | true => exact two (by omega) (by omega)
    | false => exact one (by show 0 ≤ 36864 + (g - p - 1) % 32 ∧ 36864 + (g - p - 1) % 32 < 65536; omega)
/-! the law's two mills side by side -/
theorem passN {X : Cx} : Passes (L2.CX X.prog X.w) X E0 := fun _ _ _ _ _ _ _ w => by
  rcases w with ⟨_, _, _, _, _, w⟩
  exact w.2.2.2.2.2.2.2.elim
def Lx.all (B : Lx) : List Addr := [B.M, B.g, B.r, B.c, B.p, B.k, B.t]
def Lx.mut (B : Lx) : List Addr := [B.M, B.r, B.c, B.p, B.k, B.t]
theorem Lx.sub {B : Lx} : ∀ b ∈ B.mut, b ∈ B.all := fun b hb => by
  unfold Lx.mut at hb
  unfold Lx.all
  simp only [List.mem_cons, List.not_mem_nil, or_false] at hb ⊢
  rcases hb with h | h | h | h | h | h
  · exact .inl h
  · exact .inr (.inr (.inl h))
  · exact .inr (.inr (.inr (.inl h)))
  · exact .inr (.inr (.inr (.inr (.inl h))))
  · exact .inr (.inr (.inr (.inr (.inr (.inl h)))))
  · exact .inr (.inr (.inr (.inr (.inr (.inr h)))))
theorem bls_ints {b c d : Bool} {l : List Int} : ([V.bl b, V.bl c, V.bl d] : List V) ≠ vInts l := fun e => by
  cases l with
  | nil => cases e
  | cons x l => cases e
theorem Same.lv {B : Lx} {H0 H H' : Hp} (s : Same H0 H) (v : Lv B H H') (n : ∀ b ∈ B.all, H0 b = Option.none) : Same H0 H' := fun b o e => v b o (s b o e) fun hb => by
  have : H0 b = Option.none := n b (Lx.sub b hb)
  rw [this] at e
  cases e
section
variable {K : PySem.W.Frag} {H H' : Hp} {ws gs ws2 gs2 : List Int} {B B2 : Lx} {m m2 : MS}
/-- a mill's own things have always been there -/
theorem LAt.has (h : LAt K H ws gs B m) : ∀ b ∈ B.all, ∃ o, H b = some o := fun b hb => by
  obtain ⟨f, d1, _⟩ := h.d
  unfold Lx.all at hb
  simp only [List.mem_cons, List.not_mem_nil, or_false] at hb
  rcases hb with rfl | rfl | rfl | rfl | rfl | rfl | rfl
  · exact ⟨_, d1⟩
  · exact ⟨_, h.g⟩
  · exact ⟨_, h.r⟩
  · exact ⟨_, h.c⟩
  · exact ⟨_, h.p⟩
  · exact ⟨_, h.k⟩
  · exact ⟨_, h.t⟩
/-- what the other mill does leaves this one -/
theorem LAt.lv2 (h : LAt K H ws gs B m) (l : LAt K H ws2 gs2 B2 m2) (j : ∀ b ∈ B.all, b ∉ B2.mut) (v : Lv B2 H H') : LAt K H' ws gs B m := by
  obtain ⟨f0, hM, _⟩ := l.d
  have kind : ∀ b, b ∈ B2.mut → ∃ o, H b = some o ∧ loose o ∧ ∀ x y z : Bool, o ≠ .lst [.bl x, .bl y, .bl z] := fun b hb => by
    have nl : ∀ (q : List Int) (x y z : Bool), HO.lst (vInts q) ≠ .lst [.bl x, .bl y, .bl z] := fun q x y z e => bls_ints (HO.lst.inj e).symm
    unfold Lx.mut at hb
    simp only [List.mem_cons, List.not_mem_nil, or_false] at hb
    rcases hb with rfl | rfl | rfl | rfl | rfl | rfl
    · exact ⟨_, hM, True.intro, fun _ _ _ e => by cases e⟩
    · exact ⟨_, l.r, True.intro, nl _⟩
    · exact ⟨_, l.c, True.intro, nl _⟩
    · exact ⟨_, l.p, True.intro, nl _⟩
    · exact ⟨_, l.k, True.intro, nl _⟩
    · exact ⟨_, l.t, True.intro, nl _⟩
  have f : ∀ a xs, SqT K H a xs → SqT K H' a xs := fun a xs q => by
    have k : ∀ b o, H b = some o → ¬ loose o → H' b = some o := fun b o e nl => v b o e fun hb => by
      obtain ⟨u, e2, lo, _⟩ := kind b hb
      rw [e] at e2
      rw [← Option.some.inj e2] at lo
      exact nl lo
    rcases q with (q | ⟨u, q⟩) | q
    · exact .inl (.inl (k _ _ q (fun z => z)))
    · exact .inl (.inr ⟨u, k _ _ q (fun z => z)⟩)
    · exact .inr q
  have all_ : ∀ b, b ∈ B.all → ∀ o, H b = some o → H' b = some o := fun b hb o e => v b o e (j b hb)
  obtain ⟨fl, d1, d2, d3⟩ := h.d
  have nf : fl ∉ B2.mut := fun hb => by
    obtain ⟨o, e, _, n⟩ := kind fl hb
    rw [d2] at e
    exact n _ _ _ (Option.some.inj e).symm
  exact ⟨⟨fl, all_ _ (by simp [Lx.all]) _ d1, v _ _ d2 nf, d3⟩, f _ _ h.i, all_ _ (by simp [Lx.all]) _ h.g, all_ _ (by simp [Lx.all]) _ h.r, all_ _ (by simp [Lx.all]) _ h.c, all_ _ (by simp [Lx.all]) _ h.p, all_ _ (by simp [Lx.all]) _ h.k, all_ _ (by simp [Lx.all]) _ h.t, h.nd⟩
/-- one is made when the other stands: they share nothing -/
theorem Lx.apart (h : LAt K H ws gs B m) (n : ∀ b ∈ B2.all, H b = none) : (∀ b ∈ B.all, b ∉ B2.mut) ∧ ∀ b ∈ B2.all, b ∉ B.mut := by
  refine ⟨fun b hb hb2 => ?_, fun b hb hb2 => ?_⟩
  · obtain ⟨o, e⟩ := h.has b hb
    rw [n b (Lx.sub b hb2)] at e
    cases e
  · obtain ⟨o, e⟩ := h.has b (Lx.sub b hb2)
    rw [n b hb] at e
    cases e
end
end Bm
set_option maxHeartbeats 1600000
namespace Bm
open PySem PySem.Spec PyProof.Rows L2
theorem ifs2 {c : TT} {a : TS} {D : Ends} {σ : L2.St} {H : Hp} (P : L2.St → Hp → Prop) (h1 : ∀ σ' G, P σ' G → D.nx σ' G) (h2 : (∀ σ' G, P σ' G → D.nx σ' G) → tIfS c a tNext D σ H) : tIfS c a tNext D σ H := h2 h1
theorem four_w {n : Nat} (h : n < 4) : ∃ m : Nat, atI [V.int 6, V.int 15, V.int 30, V.int 60] (0 + (n : Nat)) = some (.int (m : Nat)) ∧ m ≤ 60 := by
  have e : n = 0 ∨ n = 1 ∨ n = 2 ∨ n = 3 := by omega
  rcases e with rfl | rfl | rfl | rfl
  · exact ⟨6, atI_nat (j := 0) rfl, by decide⟩
  · exact ⟨15, atI_nat (j := 1) rfl, by decide⟩
  · exact ⟨30, atI_nat (j := 2) rfl, by decide⟩
  · exact ⟨60, atI_nat (j := 3) rfl, by decide⟩
theorem no_bad {ls : List Ld} {j : Nat} {odd : List Str} (ok : OkL ls) (hd : ∀ x ∈ ls, x.1.ok) (hl : ls.length ≤ 200) (h : BadR (ls.map itemV) j) : False := by
  obtain ⟨h1, h2, _⟩ := h
  rw [List.length_map] at h1 h2
  rcases h2 with e | ⟨xs, hx, e⟩
  · omega
  · rw [List.getElem?_map] at hx
    obtain ⟨x, hx2, rfl⟩ := Option.map_eq_some_iff.mp hx
    have hm := List.mem_of_getElem? hx2
    rw [item_list (hd x hm) (ok x hm) (by omega)] at e
    cases e
theorem img_wd {ls : List Ld} (hd : ∀ x ∈ ls, x.1.ok) (hl : ls.length ≤ 1000) : wsOk (imgL ls) := fun y hy => by
  unfold imgL imgI at hy
  obtain ⟨l, hl2, hy2⟩ := List.mem_flatten.mp hy
  obtain ⟨k, hk⟩ := List.getElem?_of_mem hl2
  rw [List.getElem?_mapIdx] at hk
  obtain ⟨x, hx, rfl⟩ := Option.map_eq_some_iff.mp hk
  have hx : (ls.take ls.length)[k]? = some x := hx
  rw [List.take_length] at hx
  exact words_fit _ _ (whole_ok (hd x (List.mem_of_getElem? hx)) hl) y hy2
theorem ints_shapedS (l : List Int) : SeqAt.shaped (.list (l.map PyData.int)) = true := by
  obtain ⟨h1, h2⟩ := ints_layL l
  unfold SeqAt.shaped
  simp only [PyData.canLay0, PyData.depth, h1, h2, Bool.true_and]
  decide
section
variable {P : Program} {w : World} {K : PySem.W.Frag} {mg : Str → Option Value} {base : Heap} {f : Addr} {fd : FuncData} {dvs : List V}
def spLaw (K : PySem.W.Frag) : Sp := fun vs H Q _ => ∃ (a : Addr) (ns : List Int), vs = [.ref a] ∧ SqL K H a (ns.map V.int) ∧ ns.length ≤ 63 ∧ ∀ H', Q (.bl true) H'
abbrev N_law : List Str := ["_law_script", "_law_state_here", "_law_turn", "_law_deeds", "_law_less", "_law_image_here", "_law_thin", "_law_again", "_law_given_here", "_law_one", "_law_other", "_law_why"]
theorem sc_law : FnScope ["_law_script", "_law_state_here", "_law_turn", "_law_deeds", "_law_less", "_law_image_here", "_law_thin", "_law_again", "_law_given_here", "_law_one", "_law_other", "_law_why"] ["_law_script"] (defScope s_law) := ⟨rfl, rfl, rfl, by decide +kernel, rfl, by decide +kernel, by decide +kernel⟩
theorem ok_law (F : FunD K "law" "law" (defArgs s_law) (defBody s_law) (defScope s_law) dvs [] f fd)
    (k__law_start : Kn P w K mg base CX0 1 "_law_start" ["_law_script"] [] (spStart K)) (k__law_winding : KnWinding P w K mg base) (k_lean : KnLean P w K mg base [])
    (k__law_image_of : KnImgX P w K mg base) (k__law_given : KnLGiv P w K mg base) (k__law_mill : KnLMill P w K mg base) (k__law_run : KnRun P w K mg base) (g_range : mg "range" = none) (g_len : mg "len" = none) : FnOk P w K mg base CX0 8 f fd ["_law_script"] (spLaw K) := by
  refine F.ok sc_law (fun vs H Q E h => ?_) (fun cdv A0 outer s H vs Q E hr h => ?_)
  · obtain ⟨a, ns, rfl, _⟩ := h
    rfl
  · obtain ⟨a, ns, rfl, hS, h63, q⟩ := h
    refine ⟨_, PSs.nox (pss_cons (ps_set (i := 1) sc_law.nd rfl (Or.inl rfl) (pk k__law_start hr (by decide) rfl pass0 (pa_cons (pv 0) pa_nil)))
      (pss_cons (ps_for PassesOwn.never rfl (pi_range1 rfl g_range (pa_cons pe_int pa_nil)) (pg_name (i := 2) sc_law.nd rfl (Or.inl rfl))
      (pss_cons (ps_set (i := 3) sc_law.nd rfl (Or.inl rfl) (pk k__law_winding hr (by decide) rfl pass0 (pa_cons (pv 1) (pa_cons (pe_ix ix_list (pe_lst (pa_cons pe_int (pa_cons pe_int (pa_cons pe_int (pa_cons pe_int pa_nil))))) (pv 2) (fun _ _ => rfl)) pa_nil))))
      (pss_cons (ps_set (i := 4) sc_law.nd rfl (Or.inl rfl) (pk k_lean hr (by decide) rfl passN (pa_cons (pv 3) pa_nil)))
      (pss_cons (ps_par (i := 5) (j := 6) rfl sc_law.nd rfl rfl (by decide) rfl rfl (pa_cons (pk k__law_image_of hr (by decide) rfl pass0 (pa_cons (pv 3) pa_nil)) (pa_cons (pk k__law_image_of hr (by decide) rfl pass0 (pa_cons (pv 4) pa_nil)) pa_nil)) rfl)
      (pss_cons (ps_if (PW.pt (pw_or (pt_cmpR op_gt (pe_callB call_len rfl g_len boot_len (pa_cons (pv 4) pa_nil)) (pe_callB call_len rfl g_len boot_len (pa_cons (pv 3) pa_nil)) (nomark _)) (pw_or1 (pt_cmpR op_isN (pv 6) pe_non (nomark _))))) (pss_one (ps_ret pe_bl)) pss_nil)
      (pss_one (ps_for PassesOwn.never rfl (pi_range1 rfl g_range (pa_cons pe_int pa_nil)) (pg_name (i := 7) sc_law.nd rfl (Or.inl rfl))
      (pss_cons (ps_set (i := 8) sc_law.nd rfl (Or.inl rfl) (pk k__law_given hr (by decide) rfl pass0 (pa_cons (pv 1) pa_nil)))
      (pss_cons (ps_par (i := 9) (j := 10) rfl sc_law.nd rfl rfl (by decide) rfl rfl (pa_cons (pk k__law_mill hr (by decide) rfl pass0 (pa_cons (pv 5) (pa_cons (pv 8) pa_nil))) (pa_cons (pk k__law_mill hr (by decide) rfl pass0 (pa_cons (pv 6) (pa_cons (pv 8) pa_nil))) pa_nil)) rfl)
      (pss_cons (ps_set (i := 11) sc_law.nd rfl (Or.inl rfl) (pk k__law_run hr (by decide) rfl pass0 (pa_cons (pv 9) (pa_cons pe_int pa_nil))))
      (pss_one (ps_if (pt_cmpR op_ne (pv 11) pe_str (nomark _)) (pss_cons (ps_if (PW.pt (pw_or (pt_cmpR op_ne (pk k__law_run hr (by decide) rfl pass0 (pa_cons (pv 10) (pa_cons (pe_op op_add (pe_dget (hu_of hr) (pv 9) pe_str (fun _ _ => rfl)) pe_int) pa_nil))) (pv 11) (nomark _)) (pw_or1 (pt_cmpR op_gt (pe_dget (hu_of hr) (pv 10) pe_str (fun _ _ => rfl)) (pe_dget (hu_of hr) (pv 9) pe_str (fun _ _ => rfl)) (nomark _))))) (pss_one (ps_ret pe_bl)) pss_nil)
      (pss_one (ps_if (pt_cmpR (op_neD hr.units) (pe_dget (hu_of hr) (pv 9) pe_str (fun _ _ => rfl)) (pe_dget (hu_of hr) (pv 10) pe_str (fun _ _ => rfl)) (nomark _)) (pss_one (ps_ret pe_bl)) pss_nil))) pss_nil))))))))))))
      (pss_one (ps_ret pe_bl)))), ?_⟩
    refine ⟨_, rfl, a, ns, rfl, hS, h63, fun st H1 hst0 s1 hst => ?_⟩
    obtain ⟨S, rfl, rfl, rfl⟩ : ∃ S : Sk, S.st = st ∧ S.sc = a ∧ S.ns = ns := ⟨⟨st, a, ns⟩, rfl, rfl, rfl⟩
    have hst : St K H1 S := hst
    refine ⟨_, rfl, by decide, by decide, for_range (n := 4) (fun n σ G => ∃ v2 v3 v4 v5 v6 v7 v8 v9 v10 v11 : Option V, σ = [some (.ref S.sc), some (.ref S.st), v2, v3, v4, v5, v6, v7, v8, v9, v10, v11] ∧ St K G S) ⟨none, none, none, none, none, none, none, none, none, none, rfl, hst⟩ ?_ ?_⟩
    · rintro n σ G hn ⟨v2, v3, v4, v5, v6, v7, v8, v9, v10, v11, rfl, st0⟩
      obtain ⟨m, hm, hm60⟩ := four_w hn
      refine ⟨_, rfl, line5 (by simp), fun l0 hl0 => ?_⟩
      have s1_ : Same G (upd G l0 (.lst [V.int 6, V.int 15, V.int 30, V.int 60])) := Same.add hl0
      have e1 : (upd G l0 (.lst [V.int 6, V.int 15, V.int 30, V.int 60])) l0 = some (.lst [V.int 6, V.int 15, V.int 30, V.int 60]) := upd_same
      generalize upd G l0 (.lst [V.int 6, V.int 15, V.int 30, V.int 60]) = G1 at s1_ e1 ⊢
      refine ⟨_, rfl, l0, _, _, _, rfl, rfl, SqL.of e1, hm, S, m, rfl, st0.same s1_, by omega, fun D rs ls G2 k2 nD nDst hD hrs hok hlm => ?_⟩
      have st2 := k2.st
      have hL : Lst K G2 rs ls := ItemsOk.lst hrs hok (by omega)
      clear k2 hrs hok
      have hlm2 : (ls.map itemV).length ≤ 1000 := by rw [List.length_map]; omega
      refine ⟨_, rfl, D, rs, ls.map itemV, rfl, SqL.of hD, hL.tups, items_rows hL.deeds, hlm2, fun _ => ⟨ls, rfl, hL, fun D2 rs2 G3 s3 nD2 hD2 hL3 => ?_⟩, fun j hj => (no_bad (odd := []) hL.ok hL.deeds (by omega) hj).elim⟩
      have hle := lean_le ls
      have size_ : ∀ l : List Ld, l.length ≤ 60 → sizeL l ≤ 120 := fun l hl => by
        have := lay_le (szL_le l) l.length
        rw [szL_len] at this
        unfold sizeL
        omega
      have z1 := size_ ls (by omega)
      have z2 := size_ (leanL ls) (by omega)
      refine ⟨_, rfl, D, rs, ls, rfl, SqL.of (s3 _ _ hD), hL.same s3, by omega, fun h => by omega, fun _ r1 G4 s4 hr1 => ?_⟩
      refine ⟨_, rfl, D2, rs2, leanL ls, rfl, SqL.of (s4 _ _ hD2), hL3.same s4, by omega, fun h => by omega, fun _ r2 G5 s5 hr2 => ?_⟩
      refine ⟨_, _, rfl, ?_⟩
      dsimp only
      have hD5 := s5 _ _ (s4 _ _ (s3 _ _ hD))
      have hD25 := s5 _ _ (s4 _ _ hD2)
      have hr15 := Same.tup s5 hr1
      have st5 := st2.same (Same.trans s3 (Same.trans s4 s5))
      have hrl := hL.len
      have hrl2 := hL3.len
      have okL := hL.ok
      have dsL := hL.deeds
      have fwL := hL.few
      clear s3 s4 s5 hD hD2 hr1 st2 hL3 hL hlm2
      refine ⟨_, rfl, _, _, rfl, .inl ⟨_, SqL.of hD25, rfl⟩, _, rfl, _, _, rfl, .inl ⟨_, SqL.of hD5, rfl⟩, _, _, rfl, rfl, ?_⟩
      refine ⟨_, rfl, iteF' (decide_eq_false (by omega)) ?_⟩
      refine ⟨_, rfl, rfl, _, rfl, iteF' (decide_eq_false (fun z => by cases z)) ?_⟩
      clear hD5 hD25 hrl hrl2 nD nD2 e1 hl0 nDst
      refine ⟨_, rfl, by decide, by decide, for_range (n := 2) (fun i σ G => ∃ u7 u8 u9 u10 u11 : Option V, σ = [some (.ref S.sc), some (.ref S.st), some (.int (0 + (n : Nat))), some (.ref D), some (.ref D2), some (.ref r1), some (.ref r2), u7, u8, u9, u10, u11] ∧ St K G S ∧ SqT K G r1 (vInts (imgL ls)) ∧ SqT K G r2 (vInts (imgL (leanL ls)))) ⟨_, _, _, _, _, rfl, st5, hr15, hr2⟩ ?_ ?_⟩
      · clear hr15 hr2 st5 st0
        rintro i σ G hi ⟨u7, u8, u9, u10, u11, rfl, st5, hr1, hr2⟩
        refine ⟨_, rfl, S, rfl, st5, fun pg gs G1 k1 hpg hgw hgl => ?_⟩
        have hr1 := k1.tup hr1
        have hr2 := k1.tup hr2
        have st1 := k1.st
        clear k1 st5
        refine ⟨_, rfl, _, rfl, r1, pg, _, gs, rfl, hr1, SqL.of hpg, fun B1 G2 s2 _ n1 hB1 => ?_⟩
        refine ⟨_, rfl, _, rfl, r2, pg, _, gs, rfl, Same.tup s2 hr2, SqL.of (s2 _ _ hpg), fun B2 G3 s3 _ n2 hB2 => ?_⟩
        refine ⟨_, _, rfl, ?_⟩
        dsimp only
        have n2 : ∀ b ∈ B2.all, G2 b = none := n2
        have n1 : ∀ b ∈ B1.all, G1 b = none := n1
        have ap := Lx.apart (B2 := B2) hB1 n2
        have hB1 := hB1.same s3
        have s13 := Same.trans s2 s3
        have n21 : ∀ b ∈ B2.all, G1 b = none := fun b hb => none_of s2 (n2 b hb)
        have l1 : (imgL ls).length ≤ 200 := by rw [imgL_len]; omega
        have l2 : (imgL (leanL ls)).length ≤ 200 := by rw [imgL_len]; omega
        refine ⟨_, rfl, B1, imgL ls, gs, MS.new, 400, rfl, hB1, new_ok gs, img_wd dsL fwL, l1, hgw, by show 0 + 400 ≤ 50000; omega, fun G4 lv4 hC1 => ?_⟩
        have hC2 := hB2.lv2 hB1 ap.2 lv4
        have s14 := Same.lv s13 lv4 n1
        have says := fun h n2 h2 => lean_says (n := 400) (gs := gs) (n2 := n2) okL dsL fwL h h2
        obtain ⟨ok2, b1, b2⟩ := rn_ok (ws := imgL ls) hgw 400 MS.new (new_ok gs)
        generalize rn (imgL ls) gs 400 MS.new = rr at hC1 says ok2 b1 b2 ⊢
        obtain ⟨why, m2⟩ := rr
        dsimp only at hC1 says ok2 b1 b2 ⊢
        have b1 : m2.s.length ≤ 0 + 400 := b1
        have b2 : m2.n ≤ 0 + 400 := b2
        clear hB1 hB2 lv4 s13 s2 s3 n2 hpg
        refine ⟨_, rfl, rfl, _, rfl, pick (p := ¬ why = "") (c := !decide (V.str why = V.str "")) ?_ (fun e0 => ?_) (fun e0 => ?_)⟩
        · by_cases z : why = ""
          · rw [decide_eq_true (congrArg V.str z), decide_eq_false (fun y => y z)]
            rfl
          · rw [decide_eq_false (fun y => z (V.str.inj y)), decide_eq_true z]
            rfl
        · obtain ⟨e1, e2, e3⟩ := says e0 _ (Nat.lt_succ_self _)
          obtain ⟨f1, hM1, _⟩ := id hC1.d
          refine ⟨_, rfl, _, rfl, B1.M, _, rfl, dg hM1 q_do, _, _, rfl, rfl, B2, imgL (leanL ls), gs, MS.new, m2.n + 1, rfl, hC2, new_ok gs, img_wd (leanN_fst (P := De.ok) dsL _) (by omega), l2, hgw, by show 0 + (m2.n + 1) ≤ 50000; omega, fun G5 lv5 hE2 => ?_⟩
          have hE1 := hC1.lv2 hC2 ap.1 lv5
          have s15 := Same.lv s14 lv5 n21
          generalize rn (imgL (leanL ls)) gs (m2.n + 1) MS.new = rr2 at e1 e2 e3 hE2 ⊢
          obtain ⟨why2, m3⟩ := rr2
          dsimp only at e1 e2 e3 hE2 ⊢
          subst e1
          obtain ⟨g1, hN1, _⟩ := id hE1.d
          obtain ⟨g2, hN2, _⟩ := id hE2.d
          refine ⟨_, rfl, rfl, _, rfl, iteF' (by rw [decide_eq_true rfl]; rfl) ?_⟩
          refine ⟨_, rfl, B2.M, _, rfl, dg hN2 q_do, _, rfl, B1.M, _, rfl, dg hN1 q_do, _, _, rfl, rfl, _, rfl, iteF' (decide_eq_false (by omega)) ?_⟩
          refine ⟨_, rfl, B1.M, _, rfl, dg hN1 q_to, _, rfl, B2.M, _, rfl, dg hN2 q_to, .list (m2.s.map PyData.int), .list (m3.s.map PyData.int), .lst (SqL.of hE1.t) (dp_intsL _), .lst (SqL.of hE2.t) (dp_intsL _), ints_shapedS _, ints_shapedS _, _, rfl, iteF' ?_ ?_⟩
          · rw [e2]
            have ee : PyData.eqv (.list (m2.s.map PyData.int)) (.list (m2.s.map PyData.int)) = true := SeqAt.eqv_refl _ (SeqAt.canLay_of_shaped (ints_shapedS _))
            rw [ee]
            rfl
          · exact ⟨_, _, _, _, _, rfl, st1.same s15, Same.tup s15 hr1, Same.tup s15 hr2⟩
        · have s4 := s14
          exact ⟨_, _, _, _, _, rfl, st1.same s4, Same.tup s4 hr1, Same.tup s4 hr2⟩
      · rintro σ G ⟨u7, u8, u9, u10, u11, rfl, st5, hr1, hr2⟩
        exact ⟨_, _, _, _, _, _, _, _, _, _, rfl, st5⟩
    · rintro σ G ⟨v2, v3, v4, v5, v6, v7, v8, v9, v10, v11, rfl, st0⟩
      exact q G
abbrev KnLaw (P : Program) (w : World) (K : PySem.W.Frag) (mg : Str → Option Value) (base : Heap) : Prop := Kn P w K mg base CX0 8 "law" ["_law_script"] [] (spLaw K)
end
end Bm
set_option maxHeartbeats 800000
namespace Bm
open PySem PySem.Spec PyProof.Rows L2
section
variable {P : Program} {w : World} {K : PySem.W.Frag} {mg : Str → Option Value} {base : Heap}
/-- a def of no defaults -/
theorem kn_of {CX : CXT} {k : Nat} {x : Str} {ps : List Str} {sp : Sp} {st : Stmt} {fd : FuncData} (g : mg x = some (.ref (He.ga K x))) (F : FunD K x x (defArgs st) (defBody st) (defScope st) [] [] (He.ga K x) fd) (ok : FnOk P w K mg base CX k (He.ga K x) fd ps sp)
    (h : ∀ (kV doc pm : Value) (an : Option Addr) (cdv ct : Value) (us : List Value), us.length = ps.length → bindArgs (PySem.W.fnOf x x (defArgs st) (defBody st) (defScope st) .none kV doc pm an cdv ct) ⟨us, []⟩ = pure (ps.zip us)) : Kn P w K mg base CX k x ps [] sp :=
  ⟨_, fd, [], g, F.kp, ok, F.bindsN h, .nil⟩
/-- a def with defaults, of which the first j are written over -/
theorem kn_dfl {CX : CXT} {k : Nat} {x : Str} {ps : List Str} {sp : Sp} {st : Stmt} {fd : FuncData} {dvs : List V} (n j : Nat) (g : mg x = some (.ref (He.ga K x))) (F : FunD K x x (defArgs st) (defBody st) (defScope st) dvs [] (He.ga K x) fd) (ok : FnOk P w K mg base CX k (He.ga K x) fd ps sp)
    (hd : dvs ≠ []) (hn : n + (dvs.length - j) = ps.length) (h : ∀ (T : Addr) (kV doc pm : Value) (an : Option Addr) (cdv ct : Value) (us its : List Value), us.length = n → its.length = dvs.length →
      ∃ k, bindArgs (PySem.W.fnOf x x (defArgs st) (defBody st) (defScope st) (.ref T) kV doc pm an cdv ct) ⟨us, []⟩ = seqItems? (.ref T) >>= k ∧ k (some its.toArray) = pure (ps.zip (us ++ its.drop j))) : Kn P w K mg base CX k x ps (dvs.drop j) sp := by
  obtain ⟨ds, h1, h2⟩ := F.binds1 n j hd hn h
  exact ⟨_, fd, ds, g, F.kp, ok, h2, h1⟩
theorem same_n {fd : FuncData} (g : mg "_law_same" = some (.ref (He.ga K "_law_same"))) (F : FunD K "_law_same" "_law_same" (defArgs s__law_same) (defBody s__law_same) (defScope s__law_same) [] [] (He.ga K "_law_same") fd)
    (g_isinstance : mg "isinstance" = none) (g_tuple : mg "tuple" = none) (g_list : mg "list" = none) (g_bool : mg "bool" = none) (g_int : mg "int" = none) (g_len : mg "len" = none) (g_range : mg "range" = none) :
    ∀ n, Kn P w K mg base CX0 n "_law_same" ["_law_found", "_law_due"] [] (spSame K n)
  | 0 => kn_of g F ⟨fun vs H Q E h => by obtain ⟨x, y, d, _, _, _, z, _⟩ := h; exact absurd z (Nat.not_lt_zero _), fun A outer s H args us vs Q E _ _ _ _ h => by obtain ⟨x, y, d, _, _, _, z, _⟩ := h; exact absurd z (Nat.not_lt_zero _)⟩
      (fun _ _ _ _ _ _ us hl => match us, hl with | [_, _], _ => rfl)
  | n + 1 => kn_of g F (ok_same F g_isinstance g_tuple g_list g_bool g_int g_len g_range (same_n g F g_isinstance g_tuple g_list g_bool g_int g_len g_range n)) (fun _ _ _ _ _ _ us hl => match us, hl with | [_, _], _ => rfl)
end
theorem facts {P : Program} {w : World} {K : PySem.W.Frag} {h h' : Heap} {mg : Str → Option Value} {f : Addr} (hP : P.main.file = FILE) (top_ : (P.main.scope.names.lookup ("super" : Str)).isSome = false) (KX : K.In h) (G : h.Ns mainGlobals mg) (hfa : mg ("law" : Str) = some (.ref f)) (c0 : SaysI faL fnL tsL tfL ciL exB w h' K) :
    ∃ fd : FuncData, (∀ (s : Shared) (v : Value), BindsTo s fd ⟨[v], []⟩ [("_law_script", v)]) ∧ ∀ base : Heap, K.In base → base.Ns mainGlobals mg → FnOk P w K mg base CX0 8 f fd ["_law_script"] (spLaw K) := by
  have c := c0.x
  obtain ⟨cB, sB⟩ := He.ba (show (conB [] K && supB K FILE "BadList" "BadList.__init__") = true from c.more)
  have hC : Con w K mg [] := con_of cB (He.glo_ok KX G (c.t.d.fact 3 (f := .glo "TIMES") rfl)) (He.glo_ok KX G (c.t.d.fact 4 (f := .glo "PARTS") rfl)) (He.glo_ok KX G (c.t.d.fact 5 (f := .glo "SPANS") rfl)) (c.t.tab 0 (t := (fun K => He.ga K "PARTS", _)) rfl) (c.t.tab 1 (t := (fun K => He.ga K "SPANS", _)) rfl)
  have clI : fnCl K (DefI.at_ ⟨"BadList", "BadList.__init__", s_init_BadList⟩) = (DefI.mk "BadList" "BadList.__init__" s_init_BadList).val := (List.cons.inj (show [_] = [_] from c0.cl)).1
  have SI : SupI P K "BadList" "BadList.__init__" s_init_BadList := supI_of (by rw [hP]; exact sB) clI top_
  obtain ⟨fd_is_number, F_is_number⟩ := (c.t.d.def_ 0 (d := d_is_number) rfl)
  obtain ⟨fd_is_part, F_is_part⟩ := (c.t.d.def_ 1 (d := d_is_part) rfl)
  obtain ⟨fd_is_deed, F_is_deed⟩ := (c.t.d.def_ 2 (d := d_is_deed) rfl)
  obtain ⟨fd_going_to, F_going_to⟩ := (c.t.d.def_ 3 (d := d_going_to) rfl)
  obtain ⟨fd_always_jumps, F_always_jumps⟩ := (c.t.d.def_ 4 (d := d_always_jumps) rfl)
  obtain ⟨fd_leaned, F_leaned⟩ := (c.t.d.def_ 5 (d := d_leaned) rfl)
  obtain ⟨fd_led, F_led⟩ := (c.t.d.def_ 6 (d := d_led) rfl)
  obtain ⟨fd_end_of, F_end_of⟩ := (c.t.d.def_ 7 (d := d_end_of) rfl)
  obtain ⟨fd_shortened, F_shortened⟩ := (c.t.d.def_ 8 (d := d_shortened) rfl)
  obtain ⟨fd_moved, F_moved⟩ := (c.t.d.def_ 9 (d := d_moved) rfl)
  obtain ⟨fd_is_idle, F_is_idle⟩ := (c.t.d.def_ 10 (d := d_is_idle) rfl)
  obtain ⟨fd_numbers_reached, F_numbers_reached⟩ := (c.t.d.def_ 11 (d := d_numbers_reached) rfl)
  obtain ⟨fd_numbers_behind, F_numbers_behind⟩ := (c.t.d.def_ 12 (d := d_numbers_behind) rfl)
  obtain ⟨fd_lean, F_lean⟩ := (c.t.d.def_ 13 (d := d_lean) rfl)
  obtain ⟨fd_checked_deeds, F_checked_deeds⟩ := (c.t.d.def_ 14 (d := d_checked_deeds) rfl)
  obtain ⟨fd_is_listed, F_is_listed⟩ := (c.t.d.def_ 15 (d := d_is_listed) rfl)
  obtain ⟨fd__law_start, F__law_start⟩ := (c.t.d.def_ 16 (d := d__law_start) rfl)
  obtain ⟨fd__law_drawn, F__law_drawn⟩ := (c.t.d.def_ 17 (d := d__law_drawn) rfl)
  obtain ⟨fd__law_same, F__law_same⟩ := (c.t.d.def_ 18 (d := d__law_same) rfl)
  obtain ⟨fd__law_plain, F__law_plain⟩ := (c.t.d.def_ 19 (d := d__law_plain) rfl)
  obtain ⟨fd__law_pairs, F__law_pairs⟩ := (c.t.d.def_ 20 (d := d__law_pairs) rfl)
  obtain ⟨fd__law_times, F__law_times⟩ := (c.t.d.def_ 21 (d := d__law_times) rfl)
  obtain ⟨fd__law_number, F__law_number⟩ := (c.t.d.def_ 22 (d := d__law_number) rfl)
  obtain ⟨fd__law_deed, F__law_deed⟩ := (c.t.d.def_ 23 (d := d__law_deed) rfl)
  obtain ⟨fd__law_words, F__law_words⟩ := (c.t.d.def_ 24 (d := d__law_words) rfl)
  obtain ⟨fd__law_deed_at, F__law_deed_at⟩ := (c.t.d.def_ 25 (d := d__law_deed_at) rfl)
  obtain ⟨fd__law_image, F__law_image⟩ := (c.t.d.def_ 26 (d := d__law_image) rfl)
  obtain ⟨fd__law_mill, F__law_mill⟩ := (c.t.d.def_ 27 (d := d__law_mill) rfl)
  obtain ⟨fd__law_state, F__law_state⟩ := (c.t.d.def_ 28 (d := d__law_state) rfl)
  obtain ⟨fd__law_brought, F__law_brought⟩ := (c.t.d.def_ 29 (d := d__law_brought) rfl)
  obtain ⟨fd__law_stopped, F__law_stopped⟩ := (c.t.d.def_ 30 (d := d__law_stopped) rfl)
  obtain ⟨fd__law_flagged, F__law_flagged⟩ := (c.t.d.def_ 31 (d := d__law_flagged) rfl)
  obtain ⟨fd__law_does, F__law_does⟩ := (c.t.d.def_ 32 (d := d__law_does) rfl)
  obtain ⟨fd__law_moves, F__law_moves⟩ := (c.t.d.def_ 33 (d := d__law_moves) rfl)
  obtain ⟨fd__law_run, F__law_run⟩ := (c.t.d.def_ 34 (d := d__law_run) rfl)
  obtain ⟨fd__law_given, F__law_given⟩ := (c.t.d.def_ 35 (d := d__law_given) rfl)
  obtain ⟨fd__law_laid, F__law_laid⟩ := (c.t.d.def_ 36 (d := d__law_laid) rfl)
  obtain ⟨fd__law_image_of, F__law_image_of⟩ := (c.t.d.def_ 37 (d := d__law_image_of) rfl)
  obtain ⟨fd__law_list, F__law_list⟩ := (c.t.d.def_ 38 (d := d__law_list) rfl)
  obtain ⟨fd__law_winding, F__law_winding⟩ := (c.t.d.def_ 39 (d := d__law_winding) rfl)
  obtain ⟨fd, F⟩ := (c.t.d.def_ 40 (d := d_law) rfl)
  have e := hfa.symm.trans (He.glo_ok KX G (c.t.d.fact 45 (f := .glo "law") rfl))
  cases e
  have b := FunD.bindsA (ps := ["_law_script"]) F fun _ _ _ _ _ _ us hl => match us, hl with | [_], _ => rfl
  refine ⟨fd, fun s v => b s [v] rfl, fun base hb1 hb2 => ?_⟩
  have bL : BadLs P w K mg base := ini_BadList SI (He.free_ok KX G (c.t.d.fact 60 (f := .free "super") rfl)) (He.noat_ok (c.t.d.fact 63 (f := .noat "BadList" "number") rfl)) (He.glo_ok KX G (c.t.d.fact 1 (f := .glo "BadList") rfl))
  have kN := kn_of (P := P) (w := w) (base := base) (st := s_is_number) (He.glo_ok KX G (c.t.d.fact 2 (f := .glo "is_number") rfl)) F_is_number (ok_num F_is_number (He.free_ok KX G (c.t.d.fact 52 (f := .free "isinstance") rfl)) (He.free_ok KX G (c.t.d.fact 48 (f := .free "bool") rfl)) (He.free_ok KX G (c.t.d.fact 51 (f := .free "int") rfl))) (fun _ _ _ _ _ _ us hl => match us, hl with | [_, _, _], _ => rfl)
  have kP := kn_of (P := P) (w := w) (base := base) (st := s_is_part) (He.glo_ok KX G (c.t.d.fact 6 (f := .glo "is_part") rfl)) F_is_part (ok_part F_is_part hC (He.free_ok KX G (c.t.d.fact 52 (f := .free "isinstance") rfl)) (He.free_ok KX G (c.t.d.fact 48 (f := .free "bool") rfl)) kN) (fun _ _ _ _ _ _ us hl => match us, hl with | [_, _], _ => rfl)
  have kD := kn_of (P := P) (w := w) (base := base) (st := s_is_deed) (He.glo_ok KX G (c.t.d.fact 7 (f := .glo "is_deed") rfl)) F_is_deed (ok_deed F_is_deed hC (fun _ hx => by cases hx) (He.free_ok KX G (c.t.d.fact 52 (f := .free "isinstance") rfl)) (He.free_ok KX G (c.t.d.fact 61 (f := .free "tuple") rfl)) (He.free_ok KX G (c.t.d.fact 58 (f := .free "str") rfl)) (He.free_ok KX G (c.t.d.fact 53 (f := .free "len") rfl)) (He.free_ok KX G (c.t.d.fact 47 (f := .free "all") rfl)) (He.free_ok KX G (c.t.d.fact 62 (f := .free "zip") rfl)) kP) (fun _ _ _ _ _ _ us hl => match us, hl with | [_], _ => rfl)
  have kGo := kn_of (P := P) (w := w) (base := base) (st := s_going_to) (He.glo_ok KX G (c.t.d.fact 8 (f := .glo "going_to") rfl)) F_going_to (ok_goL F_going_to) (fun _ _ _ _ _ _ us hl => match us, hl with | [_], _ => rfl)
  have kAj := kn_of (P := P) (w := w) (base := base) (st := s_always_jumps) (He.glo_ok KX G (c.t.d.fact 9 (f := .glo "always_jumps") rfl)) F_always_jumps (ok_aj F_always_jumps) (fun _ _ _ _ _ _ us hl => match us, hl with | [_], _ => rfl)
  have kId := kn_of (P := P) (w := w) (base := base) (st := s_is_idle) (He.glo_ok KX G (c.t.d.fact 15 (f := .glo "is_idle") rfl)) F_is_idle (ok_idle F_is_idle kGo) (fun _ _ _ _ _ _ us hl => match us, hl with | [_, _], _ => rfl)
  have kMv := kn_of (P := P) (w := w) (base := base) (st := s_moved) (He.glo_ok KX G (c.t.d.fact 14 (f := .glo "moved") rfl)) F_moved (ok_moved F_moved kGo) (fun _ _ _ _ _ _ us hl => match us, hl with | [_, _], _ => rfl)
  have kNx := kn_of (P := P) (w := w) (base := base) (st := s_numbers_behind) (He.glo_ok KX G (c.t.d.fact 17 (f := .glo "numbers_behind") rfl)) F_numbers_behind (ok_next F_numbers_behind kGo kAj) (fun _ _ _ _ _ _ us hl => match us, hl with | [_, _], _ => rfl)
  have kEn := kn_of (P := P) (w := w) (base := base) (st := s_end_of) (He.glo_ok KX G (c.t.d.fact 12 (f := .glo "end_of") rfl)) F_end_of (ok_end F_end_of kGo kAj (He.free_ok KX G (c.t.d.fact 57 (f := .free "range") rfl)) (He.free_ok KX G (c.t.d.fact 53 (f := .free "len") rfl))) (fun _ _ _ _ _ _ us hl => match us, hl with | [_, _], _ => rfl)
  have kLe := kn_of (P := P) (w := w) (base := base) (st := s_led) (He.glo_ok KX G (c.t.d.fact 11 (f := .glo "led") rfl)) F_led (ok_led F_led kGo kAj kEn) (fun _ _ _ _ _ _ us hl => match us, hl with | [_, _], _ => rfl)
  have kRc := kn_of (P := P) (w := w) (base := base) (st := s_numbers_reached) (He.glo_ok KX G (c.t.d.fact 16 (f := .glo "numbers_reached") rfl)) F_numbers_reached (ok_reach F_numbers_reached kNx (He.free_ok KX G (c.t.d.fact 53 (f := .free "len") rfl))) (fun _ _ _ _ _ _ us hl => match us, hl with | [_], _ => rfl)
  have kSh := kn_of (P := P) (w := w) (base := base) (st := s_shortened) (He.glo_ok KX G (c.t.d.fact 13 (f := .glo "shortened") rfl)) F_shortened (ok_short F_shortened kRc kId kMv (He.free_ok KX G (c.t.d.fact 50 (f := .free "enumerate") rfl)) (He.free_ok KX G (c.t.d.fact 62 (f := .free "zip") rfl))) (fun _ _ _ _ _ _ us hl => match us, hl with | [_], _ => rfl)
  have kLn := kn_of (P := P) (w := w) (base := base) (st := s_leaned) (He.glo_ok KX G (c.t.d.fact 10 (f := .glo "leaned") rfl)) F_leaned (ok_leaned F_leaned kSh kLe (He.free_ok KX G (c.t.d.fact 54 (f := .free "list") rfl)) (He.free_ok KX G (c.t.d.fact 57 (f := .free "range") rfl)) (He.free_ok KX G (c.t.d.fact 53 (f := .free "len") rfl))) (fun _ _ _ _ _ _ us hl => match us, hl with | [_], _ => rfl)
  have kIl := kn_of (P := P) (w := w) (base := base) (st := s_is_listed) (He.glo_ok KX G (c.t.d.fact 20 (f := .glo "is_listed") rfl)) F_is_listed (ok_listed F_is_listed kD kGo (He.free_ok KX G (c.t.d.fact 52 (f := .free "isinstance") rfl)) (He.free_ok KX G (c.t.d.fact 61 (f := .free "tuple") rfl))) (fun _ _ _ _ _ _ us hl => match us, hl with | [_, _], _ => rfl)
  have kCd := kn_of (P := P) (w := w) (base := base) (st := s_checked_deeds) (He.glo_ok KX G (c.t.d.fact 19 (f := .glo "checked_deeds") rfl)) F_checked_deeds (ok_checked F_checked_deeds kIl (He.free_ok KX G (c.t.d.fact 53 (f := .free "len") rfl)) (He.free_ok KX G (c.t.d.fact 50 (f := .free "enumerate") rfl)) (He.free_ok KX G (c.t.d.fact 54 (f := .free "list") rfl)) (He.int_ok KX G (c.t.d.fact 46 (f := .int "DEEDS_MOST" 200) rfl)) bL) (fun _ _ _ _ _ _ us hl => match us, hl with | [_], _ => rfl)
  have kLx := kn_of (P := P) (w := w) (base := base) (st := s_lean) (He.glo_ok KX G (c.t.d.fact 18 (f := .glo "lean") rfl)) F_lean (ok_lean F_lean kCd kLn) (fun _ _ _ _ _ _ us hl => match us, hl with | [_], _ => rfl)
  have kSt := kn_of (P := P) (w := w) (base := base) (st := s__law_start) (He.glo_ok KX G (c.t.d.fact 21 (f := .glo "_law_start") rfl)) F__law_start (ok_start F__law_start) (fun _ _ _ _ _ _ us hl => match us, hl with | [_], _ => rfl)
  have kDr := kn_of (P := P) (w := w) (base := base) (st := s__law_drawn) (He.glo_ok KX G (c.t.d.fact 22 (f := .glo "_law_drawn") rfl)) F__law_drawn (ok_drawn F__law_drawn (He.free_ok KX G (c.t.d.fact 53 (f := .free "len") rfl))) (fun _ _ _ _ _ _ us hl => match us, hl with | [_, _], _ => rfl)
  have k1 := kn_of (P := P) (w := w) (base := base) (st := s__law_plain) (He.glo_ok KX G (c.t.d.fact 24 (f := .glo "_law_plain") rfl)) F__law_plain (ok_plain F__law_plain) (fun _ _ _ _ _ _ us hl => match us, hl with | [], _ => rfl)
  have k2 := kn_of (P := P) (w := w) (base := base) (st := s__law_pairs) (He.glo_ok KX G (c.t.d.fact 25 (f := .glo "_law_pairs") rfl)) F__law_pairs (ok_pairs F__law_pairs) (fun _ _ _ _ _ _ us hl => match us, hl with | [], _ => rfl)
  have k3 := kn_of (P := P) (w := w) (base := base) (st := s__law_times) (He.glo_ok KX G (c.t.d.fact 26 (f := .glo "_law_times") rfl)) F__law_times (ok_times F__law_times) (fun _ _ _ _ _ _ us hl => match us, hl with | [], _ => rfl)
  have kNu := kn_of (P := P) (w := w) (base := base) (st := s__law_number) (He.glo_ok KX G (c.t.d.fact 27 (f := .glo "_law_number") rfl)) F__law_number (ok_number F__law_number kDr (He.free_ok KX G (c.t.d.fact 56 (f := .free "min") rfl))) (fun _ _ _ _ _ _ us hl => match us, hl with | [_, _, _], _ => rfl)
  have kLD := kn_of (P := P) (w := w) (base := base) (st := s__law_deed) (He.glo_ok KX G (c.t.d.fact 28 (f := .glo "_law_deed") rfl)) F__law_deed (ok_ldeed F__law_deed kDr kNu k1 k2 k3 (He.free_ok KX G (c.t.d.fact 56 (f := .free "min") rfl)) (He.free_ok KX G (c.t.d.fact 55 (f := .free "max") rfl))) (fun _ _ _ _ _ _ us hl => match us, hl with | [_, _, _], _ => rfl)
  have kLW := kn_of (P := P) (w := w) (base := base) (st := s__law_words) (He.glo_ok KX G (c.t.d.fact 29 (f := .glo "_law_words") rfl)) F__law_words (ok_lwords F__law_words k1 k2 k3 (He.free_ok KX G (c.t.d.fact 59 (f := .free "sum") rfl)) (He.free_ok KX G (c.t.d.fact 51 (f := .free "int") rfl))) (fun _ _ _ _ _ _ us hl => match us, hl with | [_, _], _ => rfl)
  have kLl := kn_of (P := P) (w := w) (base := base) (st := s__law_laid) (He.glo_ok KX G (c.t.d.fact 41 (f := .glo "_law_laid") rfl)) F__law_laid (ok_laidX F__law_laid (He.free_ok KX G (c.t.d.fact 57 (f := .free "range") rfl)) (He.free_ok KX G (c.t.d.fact 53 (f := .free "len") rfl)) (He.free_ok KX G (c.t.d.fact 51 (f := .free "int") rfl))) (fun _ _ _ _ _ _ us hl => match us, hl with | [_, _], _ => rfl)
  have kLi := kn_of (P := P) (w := w) (base := base) (st := s__law_image_of) (He.glo_ok KX G (c.t.d.fact 42 (f := .glo "_law_image_of") rfl)) F__law_image_of (ok_imgX F__law_image_of kLl kLW (He.free_ok KX G (c.t.d.fact 57 (f := .free "range") rfl)) (He.free_ok KX G (c.t.d.fact 53 (f := .free "len") rfl)) (He.free_ok KX G (c.t.d.fact 51 (f := .free "int") rfl))) (fun _ _ _ _ _ _ us hl => match us, hl with | [_], _ => rfl)
  have kLs := kn_of (P := P) (w := w) (base := base) (st := s__law_list) (He.glo_ok KX G (c.t.d.fact 43 (f := .glo "_law_list") rfl)) F__law_list (ok_list F__law_list kDr kLD (He.free_ok KX G (c.t.d.fact 57 (f := .free "range") rfl)) (He.free_ok KX G (c.t.d.fact 56 (f := .free "min") rfl))) (fun _ _ _ _ _ _ us hl => match us, hl with | [_, _], _ => rfl)
  have kWn := kn_of (P := P) (w := w) (base := base) (st := s__law_winding) (He.glo_ok KX G (c.t.d.fact 44 (f := .glo "_law_winding") rfl)) F__law_winding (ok_winding F__law_winding kDr kLs k3 (He.free_ok KX G (c.t.d.fact 57 (f := .free "range") rfl)) (He.free_ok KX G (c.t.d.fact 53 (f := .free "len") rfl)) (He.free_ok KX G (c.t.d.fact 51 (f := .free "int") rfl)) (He.free_ok KX G (c.t.d.fact 56 (f := .free "min") rfl))) (fun _ _ _ _ _ _ us hl => match us, hl with | [_, _], _ => rfl)
  have kLA := kn_of (P := P) (w := w) (base := base) (st := s__law_deed_at) (He.glo_ok KX G (c.t.d.fact 30 (f := .glo "_law_deed_at") rfl)) F__law_deed_at (ok_lat F__law_deed_at k1 k2 k3 (He.free_ok KX G (c.t.d.fact 49 (f := .free "divmod") rfl)) (He.free_ok KX G (c.t.d.fact 51 (f := .free "int") rfl)) (He.free_ok KX G (c.t.d.fact 53 (f := .free "len") rfl))) (fun _ _ _ _ _ _ us hl => match us, hl with | [_, _], _ => rfl)
  have kLM := kn_of (P := P) (w := w) (base := base) (st := s__law_mill) (He.glo_ok KX G (c.t.d.fact 32 (f := .glo "_law_mill") rfl)) F__law_mill (ok_lmill F__law_mill (He.free_ok KX G (c.t.d.fact 54 (f := .free "list") rfl))) (fun _ _ _ _ _ _ us hl => match us, hl with | [_, _], _ => rfl)
  have kBr := kn_of (P := P) (w := w) (base := base) (st := s__law_brought) (He.glo_ok KX G (c.t.d.fact 34 (f := .glo "_law_brought") rfl)) F__law_brought (ok_brought F__law_brought (He.free_ok KX G (c.t.d.fact 57 (f := .free "range") rfl)) (He.free_ok KX G (c.t.d.fact 56 (f := .free "min") rfl)) (He.free_ok KX G (c.t.d.fact 55 (f := .free "max") rfl)) (He.free_ok KX G (c.t.d.fact 51 (f := .free "int") rfl))) (fun _ _ _ _ _ _ us hl => match us, hl with | [_, _, _], _ => rfl)
  have kSp := kn_of (P := P) (w := w) (base := base) (st := s__law_stopped) (He.glo_ok KX G (c.t.d.fact 35 (f := .glo "_law_stopped") rfl)) F__law_stopped (ok_stopped F__law_stopped kLA (He.free_ok KX G (c.t.d.fact 53 (f := .free "len") rfl))) (fun _ _ _ _ _ _ us hl => match us, hl with | [_], _ => rfl)
  have kFl := kn_of (P := P) (w := w) (base := base) (st := s__law_flagged) (He.glo_ok KX G (c.t.d.fact 36 (f := .glo "_law_flagged") rfl)) F__law_flagged (ok_flagged F__law_flagged) (fun _ _ _ _ _ _ us hl => match us, hl with | [_, _, _, _], _ => rfl)
  have kMo := kn_of (P := P) (w := w) (base := base) (st := s__law_moves) (He.glo_ok KX G (c.t.d.fact 38 (f := .glo "_law_moves") rfl)) F__law_moves (ok_moves F__law_moves k3) (fun _ _ _ _ _ _ us hl => match us, hl with | [_, _, _], _ => rfl)
  have kDo := kn_of (P := P) (w := w) (base := base) (st := s__law_does) (He.glo_ok KX G (c.t.d.fact 37 (f := .glo "_law_does") rfl)) F__law_does (ok_does F__law_does kLA kFl k2 kBr kMo) (fun _ _ _ _ _ _ us hl => match us, hl with | [_], _ => rfl)
  have kRu := kn_of (P := P) (w := w) (base := base) (st := s__law_run) (He.glo_ok KX G (c.t.d.fact 39 (f := .glo "_law_run") rfl)) F__law_run (ok_run F__law_run kSp kDo (He.free_ok KX G (c.t.d.fact 57 (f := .free "range") rfl))) (fun _ _ _ _ _ _ us hl => match us, hl with | [_, _], _ => rfl)
  have kGi := kn_of (P := P) (w := w) (base := base) (st := s__law_given) (He.glo_ok KX G (c.t.d.fact 40 (f := .glo "_law_given") rfl)) F__law_given (ok_lgiv F__law_given kDr (He.free_ok KX G (c.t.d.fact 57 (f := .free "range") rfl))) (fun _ _ _ _ _ _ us hl => match us, hl with | [_], _ => rfl)
  exact ok_law F kSt kWn kLx kLi kGi kLM kRu (He.free_ok KX G (c.t.d.fact 57 (f := .free "range") rfl)) (He.free_ok KX G (c.t.d.fact 53 (f := .free "len") rfl))
end Bm
open PySem PySem.W PySem.Calls PyProof.Rows
set_option maxRecDepth 100000 in
set_option maxHeartbeats 0 in
theorem PySem.Challenge.cw_bitmill_k22_whole_lean_lists_say_the_sam_holds : PySem.Challenge.rw_bitmill_k22_whole_lean_lists_say_the_sam.Holds := by
  w_on; o_law
  refine HandSHeadRun.head_any (r := OpenLaw.row PySem.Challenge.rw_bitmill_k22_whole_lean_lists_say_the_sam) (q := view (OpenLaw.row PySem.Challenge.rw_bitmill_k22_whole_lean_lists_say_the_sam).prog [Bm.LAWI]) (H := Bm.hk) (ob := Bm.ob) (M := 6000) (loose := Bm.looseL) (d := HandSHeadRun.topDef (OpenLaw.row PySem.Challenge.rw_bitmill_k22_whole_lean_lists_say_the_sam).prog Bm.LAWI) (kwd := []) Bm.ob_eq
    (by kernel_rfl) (fun s => by kernel_rfl) Bm.run (by kernel_rfl) (by kernel_rfl) (by kernel_rfl) (by rfl) (by first | assumption | decide +kernel) (by decide +kernel) ⟨rfl, rfl, rfl, rfl, rfl, by decide +kernel⟩ ?hw ?hc
  case hw => w_witness2
  case hc =>
    refine L2.walk_ofE (l := PySem.Challenge.rw_bitmill_k22_whole_lean_lists_say_the_sam) (n := 63) (k := 8) (x := "_law_script") (CX := L2.CX0) rfl (by decide) (by kernel_rfl) ⟨rfl, by decide, by decide⟩ ?F (fun _ _ _ _ z => z)
    intro w mg fa h Y G hmg0
    obtain ⟨K, KX, c0⟩ := Y
    have hmg : mg ("law" : PySem.Str) = some (.ref fa) := by
      have e : (HandSHeadRun.topDef (OpenLaw.row PySem.Challenge.rw_bitmill_k22_whole_lean_lists_say_the_sam).prog Bm.LAWI).name = ("law" : PySem.Str) := by kernel_rfl
      rw [← e]
      exact hmg0
    obtain ⟨fd, hb, hF⟩ := Bm.facts (P := (PySem.Challenge.rw_bitmill_k22_whole_lean_lists_say_the_sam).prog) (w := w) (by kernel_rfl) (by kernel_rfl) KX G hmg c0
    exact ⟨K, fd, Bm.spLaw K, KX, hb, fun H a ns hl _ hS => ⟨a, ns, rfl, hS, hl, fun _ => rfl⟩, hF⟩
