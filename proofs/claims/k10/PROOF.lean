import PyProof.Rows.All
import Wide.All
import OpenK.AllK
import Wide.FinOn
import PyProof.Rows.MatchSeqLen
import HandS.Base
import HandS.Call
import HandS.List
import HandS.ForMost
import HandS.Exc
import HandS.TryOnly
import HandS.Defaults
import HandS.Conv
import HandS.Strs
import HandS.IsInst
import HandS.Zip
import HandS.Deep
import HandS.TupAny
import HandS.Evl
import KE.KExcSuper
import HandS.ExcSuper
import HandS.ExcInit
import HandS.Nested
import HandS.FStr
import HandS.HeadHook1
import HandS.HeadHook2
import HandS.HeadHook3
import HandS.HeadHook4
import HandS.ExcIs
import HandS.ExcField
import KE.KStateDown
import Lean
import HandS.Codes
import HandS.Lambda
import HandS.Head0
import HandS.Head1
import HandS.Head2
import HandS.HeadEnd
import HandS.HeadWalk
import HandS.Text
import KE.BitLaws
import HandS.Walk
import KE.GoesMore
import KE.GoesEnum
import HandS.Iter
import PyProof.StrOps2
import PyProof.StrLaws
import HandS.StrMore
import PyProof.FString3
import PyProof.Rows.StrIntSpec
import PyProof.AssignAttr
import KE.KIntText
import HandS.Dict
import HandS.Small
import HandS.Flow
import KE.KExcIs
import KE.KTupSum
import HandS.Wide
import HandS.Style
import HandS.Replace
import KE.KBits
import HandS.Comp
import HandS.TupMul
import HandS.DictComp
import HandS.More
import PySem.Challenge.RW_bitmill_k10_sums_reckoned
set_option Elab.async false
set_option linter.all false
set_option maxRecDepth 100000
set_option maxHeartbeats 200000
namespace Bm
open PySem PySem.Spec PyProof.Rows L2
abbrev PK := Option (List (Nat × V)) → Hp → Prop
abbrev TPt := V → Hp → PK → Prop
def Bnd (X : Cx) : List (Str × Value) → List (Nat × V) → Prop := Paired fun p q => (X.N[q.1]? = some p.1 ∧ Loc X.env.scope p.1 ∧ (X.fn p.1 = true ∨ X.env.scope.names.lookup p.1 = some .local)) ∧ RelV q.2 p.2
theorem Bnd.app {X : Cx} : ∀ {a c : List (Str × Value)} {b d : List (Nat × V)}, Bnd X a b → Bnd X c d → Bnd X (a ++ c) (b ++ d)
  | [], _, [], _, _, h => h
  | _ :: _, _, _ :: _, _, .cons r t, h => .cons r (Bnd.app t h)
def PRel (X : Cx) : Option (List (Str × Value)) → Option (List (Nat × V)) → Prop
  | none, none => True
  | some b, some c => Bnd X b c
  | _, _ => False
def PtP (X : Cx) (pins : List (Addr × Obj)) (σ : L2.St) (k : PK) (r : Option (List (Str × Value))) (s' : Shared) : Prop := ∃ ro H', Inv X pins σ H' s' ∧ PRel X r ro ∧ k ro H'
structure PPt (X : Cx) (p : Pattern) (t : TPt) : Prop where
  run : ∀ (pins : List (Addr × Obj)) (s : Shared) (σ : L2.St) (H : Hp) (v : V) (u : Value) (k : PK), Inv X pins σ H s → RelV v u → t v H k →
    wpAny (model X.prog X.w) X.A (matchPattern p X.env u) (PtP X pins σ k) X.xe s
structure PPs (X : Cx) (ps : List Pattern) (t : List V → Hp → PK → Prop) : Prop where
  run : ∀ (pins : List (Addr × Obj)) (s : Shared) (σ : L2.St) (H : Hp) (vs : List V) (us : List Value) (k : PK), Inv X pins σ H s → Vals vs us → t vs H k →
    wpAny (model X.prog X.w) X.A (matchEach ps X.env us) (PtP X pins σ k) X.xe s
section
variable {X : Cx}
/-- a written text (or number): equal or not -/
def tPv (c : V) : TPt := fun v H k => scal v c = true ∧ k (if v = c then some [] else none) H
theorem pp_val {e : Expr} {c : V} {pos : Pos} (he : PE X e (tC c)) : PPt X (.MatchValue e pos) (tPv c) := by
  refine ⟨fun pins s σ H v u k I r h => ?_⟩
  obtain ⟨h1, h2⟩ := h
  refine wpAny_matchPattern_Value (thn (he.run pins s σ H (fun x H1 => x = c ∧ H1 = H) I ⟨rfl, rfl⟩) fun x s1 ⟨y, H1, I1, r1, e1, e2⟩ => ?_)
  subst e1 e2
  refine thn (op_eq pins s1 σ H1 v y u x (fun z H2 => z = .bl (decide (v = y)) ∧ H2 = H1) I1 r r1 ⟨h1, rfl, rfl⟩) fun z s2 ⟨w, H2, I2, r2, e1, e2⟩ => ?_
  subst e1 e2
  cases r2
  refine wpAny_truthy_bool ?_
  by_cases q : v = y
  · rw [decide_eq_true q]
    rw [if_pos q] at h2
    exact ⟨some [], H2, I2, .nil, h2⟩
  · rw [decide_eq_false q]
    rw [if_neg q] at h2
    exact ⟨none, H2, I2, True.intro, h2⟩
/-- a name -/
def tPn (i : Nat) : TPt := fun v H k => k (some [(i, v)]) H
theorem pp_name {i : Nat} {x : Str} {pos : Pos} (hi : X.N[i]? = some x) (hx : Loc X.env.scope x) (hf : X.fn x = true ∨ X.env.scope.names.lookup x = some .local := by first | exact .inl rfl | exact .inr rfl) : PPt X (.MatchAs none (some x) pos) (tPn i) := by
  refine ⟨fun pins s σ H v u k I r h => ?_⟩
  exact wpAny_matchPattern_Capture ⟨some [(i, v)], H, I, .cons ⟨⟨hi, hx, hf⟩, r⟩ .nil, h⟩
/-- whatever it is -/
def tPw : TPt := fun _ H k => k (some []) H
theorem pp_wild {pos : Pos} : PPt X (.MatchAs none none pos) tPw := ⟨fun pins s σ H v u k I r h => wpAny_matchPattern_Capture ⟨some [], H, I, .nil, h⟩⟩
def tPnil : List V → Hp → PK → Prop := fun vs H k => vs = [] ∧ k (some []) H
def tPcons (t : TPt) (u : List V → Hp → PK → Prop) : List V → Hp → PK → Prop := fun vs H k => ∃ v r, vs = v :: r ∧ t v H fun a H1 => match a with
  | none => k none H1
  | some b => u r H1 fun c H2 => match c with
    | none => k none H2
    | some d => k (some (b ++ d)) H2
theorem pps_nil : PPs X [] tPnil := ⟨fun pins s σ H vs us k I r h => by
  obtain ⟨e, h⟩ := h
  subst e
  cases r
  exact wpAny_matchEach_nil ⟨some [], H, I, .nil, h⟩⟩
theorem pps_cons {p : Pattern} {ps : List Pattern} {t : TPt} {u : List V → Hp → PK → Prop} (h1 : PPt X p t) (h2 : PPs X ps u) (hp : p.isStar = false := by rfl) : PPs X (p :: ps) (tPcons t u) := by
  refine ⟨fun pins s σ H vs us k I r h => ?_⟩
  obtain ⟨v, vr, e, h⟩ := h
  subst e
  cases r with
  | cons r rr =>
    refine wpAny_matchEach_cons (thn (h1.run pins s σ H v _ _ I r h) fun a s1 ⟨ro, H1, I1, rel, q⟩ => ?_) hp
    cases a with
    | none =>
      cases ro with
      | none => exact ⟨none, H1, I1, True.intro, q⟩
      | some _ => exact rel.elim
    | some bs =>
      cases ro with
      | none => exact rel.elim
      | some b =>
        refine thn (h2.run pins s1 σ H1 vr _ _ I1 rr q) fun c s2 ⟨rc, H2, I2, rel2, q2⟩ => ?_
        cases c with
        | none =>
          cases rc with
          | none => exact ⟨none, H2, I2, True.intro, q2⟩
          | some _ => exact rel2.elim
        | some cs =>
          cases rc with
          | none => exact rel2.elim
          | some d => exact ⟨some (b ++ d), H2, I2, Bnd.app rel rel2, q2⟩
/-- (p, q, ..) of a tuple -/
def tPseq (K : PySem.W.Frag) (n : Nat) (t : List V → Hp → PK → Prop) : TPt := fun v H k => ∃ a xs, v = .ref a ∧ SqT K H a xs ∧ if xs.length = n then t xs H k else k none H
theorem line63 {n : Nat} (h : n ≤ sizeLine) : (n : Int) < 2 ^ 63 := by
  have e : sizeLine = 16777216 := sizeLine_eq
  omega
theorem pp_seq {ps : List Pattern} {pos : Pos} {n : Nat} {t : List V → Hp → PK → Prop} (hc : X.calm = true) (h : PPs X ps t) (hn : ps.length = n := by rfl) (hstar : ps.findIdx? (·.isStar) = none := by rfl)
    (hwild : (ps.all fun p => p.isWildcard || (p.isStar && p.names.isEmpty)) = false := by rfl) : PPt X (.MatchSequence ps pos) (tPseq X.K n t) := by
  refine ⟨fun pins s σ H v u k I r hw => ?_⟩
  obtain ⟨a, xs, e, hq, hw⟩ := hw
  subst e hn
  cases r
  obtain ⟨its, rv, ht, hz⟩ := I.tuple hq
  have hl := rv.length
  have fit : ((its.toArray.size : Nat) : Int) < 2 ^ 63 := by
    rw [List.size_toArray, ← hl]
    exact line63 hz
  by_cases q : xs.length = ps.length
  · rw [if_pos q] at hw
    have en : its.toArray.size = ps.length := by rw [List.size_toArray, ← hl, q]
    refine matchSeq_tuple_hit ht fit en ?_ hstar hwild
    rw [← en]
    refine unpackItems_tuple (I.ok.hd hc) ht fun h' hx => ?_
    have I1 := I.tok (s.toks + 1 + 1)
    have I2 := I1.kept (h' := h') (t' := s.toks + 1 + 1) fun b o e => hx b o (Nat.ne_of_lt (Heap.lt_size e)) e
    exact h.run pins _ σ H xs _ k I2 (by simpa using rv) hw
  · rw [if_neg q] at hw
    refine matchSeq_tuple_miss ht fit (fun z => q ?_) ⟨none, H, I.tok _, True.intro, hw⟩ hstar hwild
    rw [← z, List.size_toArray, hl]
/-- either of two or more -/
def tPfirst (t : TPt) (u : TPt) : TPt := fun v H k => t v H fun a H1 => match a with
  | some b => k (some b) H1
  | none => u v H1 k
structure PPf (X : Cx) (ps : List Pattern) (t : TPt) : Prop where
  run : ∀ (pins : List (Addr × Obj)) (s : Shared) (σ : L2.St) (H : Hp) (v : V) (u : Value) (k : PK), Inv X pins σ H s → RelV v u → t v H k →
    wpAny (model X.prog X.w) X.A (matchFirst ps X.env u) (PtP X pins σ k) X.xe s
theorem ppf_nil : PPf X [] (fun _ H k => k none H) := ⟨fun pins s σ H v u k I r h => wpAny_matchFirst_nil ⟨none, H, I, True.intro, h⟩⟩
theorem ppf_cons {p : Pattern} {ps : List Pattern} {t u : TPt} (h1 : PPt X p t) (h2 : PPf X ps u) : PPf X (p :: ps) (tPfirst t u) := by
  refine ⟨fun pins s σ H v w k I r h => ?_⟩
  refine wpAny_matchFirst_cons (thn (h1.run pins s σ H v w _ I r h) fun a s1 ⟨ro, H1, I1, rel, q⟩ => ?_)
  cases a with
  | none =>
    cases ro with
    | none => exact h2.run pins s1 σ H1 v w k I1 r q
    | some _ => exact rel.elim
  | some bs =>
    cases ro with
    | none => exact rel.elim
    | some b => exact ⟨some b, H1, I1, rel, q⟩
/-- texts in a row, with no names: "jump" | "call" -/
def tPor (t : TPt) : TPt := fun v H k => t v H fun a H1 => match a with
  | some _ => k (some []) H1
  | none => k none H1
theorem pp_or {ps : List Pattern} {pos : Pos} {t : TPt} (h : PPf X ps t) (hn : namesOfAll (ps.take 1) = [] := by rfl) : PPt X (.MatchOr ps pos) (tPor t) := by
  refine ⟨fun pins s σ H v u k I r hw => ?_⟩
  refine wpAny_matchPattern_Or (thn (h.run pins s σ H v u _ I r hw) fun a s1 ⟨ro, H1, I1, rel, q⟩ => ?_)
  cases a with
  | none =>
    cases ro with
    | none => exact ⟨none, H1, I1, True.intro, q⟩
    | some _ => exact rel.elim
  | some bs =>
    cases ro with
    | none => exact rel.elim
    | some b =>
      show PtP X pins σ k (some ((namesOfAll (ps.take 1)).filterMap fun n => (bs.lookup n).map (n, ·))) s1
      rw [hn]
      exact ⟨some [], H1, I1, .nil, q⟩
/-- the slots that the names of a pattern get, one after another -/
def setAll : List (Nat × V) → L2.St → L2.St
  | [], σ => σ
  | (i, v) :: r, σ => setAll r (σ.set i (some v))
theorem bind_all {M : Model} {E : Value → Shared → Prop} {pins : List (Addr × Obj)} {H : Hp} {A : Around} (hN : X.N.Nodup) {bs : List (Str × Value)} {cs : List (Nat × V)} (B : Bnd X bs cs) : ∀ {σ : L2.St} {s : Shared} {Q : Unit → Shared → Prop}, Inv X pins σ H s →
    (∀ s', Inv X pins (setAll cs σ) H s' → Q () s') → wpAny M A (assignInOrder (bs.map fun (n, _) => bindName X.env n) (bs.map (·.2))) Q E s := by
  induction bs generalizing cs with
  | nil =>
    intro σ s Q I h
    cases B
    exact wpAny_assignInOrder_none (h s I)
  | cons p bs ih =>
    intro σ s Q I h
    cases cs with
    | nil => cases B
    | cons q cs =>
      have B1 : ((X.N[q.1]? = some p.1 ∧ Loc X.env.scope p.1 ∧ (X.fn p.1 = true ∨ X.env.scope.names.lookup p.1 = some .local)) ∧ RelV q.2 p.2) ∧ Bnd X bs cs := by
        cases B with
        | cons r t => exact ⟨r, t⟩
      obtain ⟨⟨⟨hi, hx, hf⟩, r⟩, t⟩ := B1
      refine wpAny_assignInOrder_more (wpAny_bindName (store_ok I hN hi hx r (fun s' I' => ?_) hf))
      exact ih t I' h
abbrev TCs := V → TS
structure PCs (X : Cx) (cs : List MatchCase) (t : TCs) : Prop where
  run : ∀ (first : Bool) (pins : List (Addr × Obj)) (s : Shared) (σ : L2.St) (H : Hp) (v : V) (u : Value) (D : Ends), Inv X pins σ H s → RelV v u → t v D σ H →
    wpAny (model X.prog X.w) X.A (matchCases cs X.env u first) (SP X pins D) X.xe s
def tCsNil : TCs := fun _ D σ H => D.nx σ H
theorem pcs_nil : PCs X [] tCsNil := ⟨fun first pins s σ H v u D I r h => wpAny_matchCases_nil ⟨σ, H, I, h⟩⟩
def tCs (p : TPt) (b : TS) (t : TCs) : TCs := fun v D σ H => p v H fun a H1 => match a with
  | none => t v D σ H1
  | some cs => b D (setAll cs σ) H1
theorem pcs_cons {p : Pattern} {body : List Stmt} {rest : List MatchCase} {tp : TPt} {b : TS} {t : TCs} (hN : X.N.Nodup) (hp : PPt X p tp) (hb : PSs X body b) (hr : PCs X rest t) : PCs X (⟨p, none, body⟩ :: rest) (tCs tp b t) := by
  refine ⟨fun first pins s σ H v u D I r h => ?_⟩
  refine wpAny_matchCases_cons (thn (hp.run pins s σ H v u _ I r h) fun a s1 ⟨ro, H1, I1, rel, q⟩ => ?_)
  cases a with
  | none =>
    cases ro with
    | none => exact hr.run false pins s1 σ H1 v u D I1 r q
    | some _ => exact rel.elim
  | some bs =>
    cases ro with
    | none => exact rel.elim
    | some cs => exact bind_all hN rel I1 fun s2 I2 => hb.run pins s2 _ H1 D I2 q
def tMatch (te : TE) (t : TCs) : TS := fun D σ H => te σ H fun v H1 => t v D σ H1
theorem ps_match {e : Expr} {cs : List MatchCase} {pos : Pos} {te : TE} {t : TCs} (he : PE X e te) (h : PCs X cs t) : PS X (.Match e cs pos) (tMatch te t) := by
  refine ⟨fun pins s σ H D I hw => ?_⟩
  exact wpAny_Match (thn (he.run pins s σ H _ I hw) fun u s1 ⟨v, H1, I1, r1, q1⟩ => h.run true pins s1 σ H1 v u D I1 r1 q1)
end
end Bm
set_option maxHeartbeats 400000
namespace Bm
open PySem PySem.Spec PyProof.Rows L2
/-! a def known by its name, the values that stand for what a call leaves out -/
structure Kn (P : Program) (w : World) (K : PySem.W.Frag) (mg : Str → Option Value) (base : Heap) (CX : CXT) (k : Nat) (x : Str) (ps : List Str) (dvs : List V) (sp : Sp) : Prop where
  ex : ∃ (f : Addr) (fd : FuncData) (ds : List Value), mg x = some (.ref f) ∧ PySem.W.keepIn K (.ref f) = true ∧ FnOk P w K mg base CX k f fd ps sp ∧ Binds K fd ps ds ∧ Vals dvs ds
section
variable {X : Cx} {CX : CXT} {k j : Nat} {x : Str} {ps : List Str} {dvs : List V} {sp : Sp} {E : XK} {p pos : Pos} {e : Expr} {es : List Expr} {t : TA}
theorem pk (n : Kn X.prog X.w X.K X.mg X.base CX k x ps dvs sp) (hr : Room j X.A) (hj : k ≤ j) (hg : Gl X x) (hx : Passes CX X E) (ha : PA X (e :: es) t) (hdb : (x == ("__debug__" : Str)) = false := by decide)
    (star1 : starEach (e :: es) X.env = (false, eval e X.env) :: starEach es X.env := by rfl) (star2 : (backTo pos (starEach es X.env)).any (·.1) = false := by rfl) : PE X (.Call (.Name x p) (e :: es) [] pos) (tCall sp dvs E t) := by
  obtain ⟨f, fd, ds, h1, h2, h3, h4, h5⟩ := n.ex
  exact pe_call h3 (hr.mono hj) hg h1 h2 h4 h5 hx ha (by first | exact hdb | exact star1 | exact star2) (by first | exact hdb | exact star1 | exact star2) (by first | exact hdb | exact star1 | exact star2)
theorem pk0 (n : Kn X.prog X.w X.K X.mg X.base CX k x ps dvs sp) (hr : Room j X.A) (hj : k ≤ j) (hg : Gl X x) (hx : Passes CX X E) (hdb : (x == ("__debug__" : Str)) = false := by decide) :
    PE X (.Call (.Name x p) [] [] pos) (tCall sp dvs E tNil) := by
  obtain ⟨f, fd, ds, h1, h2, h3, h4, h5⟩ := n.ex
  exact pe_call0 h3 (hr.mono hj) hg h1 h2 h4 h5 hx hdb
end
theorem Same.tup {K : PySem.W.Frag} {H H' : Hp} {a : Addr} {xs : List V} (e : Same H H') (h : SqT K H a xs) : SqT K H' a xs := by
  rcases h with (h | ⟨o, h⟩) | h
  · exact .inl (.inl (e _ _ h))
  · exact .inl (.inr ⟨o, e _ _ h⟩)
  · exact .inr h
theorem Same.add {H : Hp} {p : Addr} {o : HO} (h : H p = none) : Same H (upd H p o) := fun b u q => by
  rw [upd_ne (ne_of_none q h)]
  exact q
/-- a thing just laid, told by what stays -/
theorem laid {o : HO} {H : Hp} {Q : VK} (h : ∀ p H1, H p = none → Same H H1 → H1 p = some o → Q (.ref p) H1) : ∀ p, H p = none → Q (.ref p) (upd H p o) := fun p hp => h p _ hp (Same.add hp) upd_same
theorem line5 {n : Nat} (h : n ≤ 100000) : n ≤ sizeLine := Nat.le_trans h (by decide)
end Bm
set_option maxHeartbeats 1000000
namespace Bm
open PySem PySem.Spec PyProof.Rows L2
section
variable {X : Cx} {pins : List (Addr × Obj)} {σ : L2.St} {H : Hp} {s : Shared} {a C D f cc cda : Addr}
/-- a thing that is laid and not told of in H: it is pinned -/
theorem pin_new {h2 : Heap} {u : Addr} {o : Obj} {t' : Nat} (I : Inv X pins σ H s) (hu : s.heap.objs.size ≤ u) (e : h2.get? u = some o) (k : ∀ b v, s.heap.get? b = some v → h2.get? b = some v) (nc : ∀ v, o.data ≠ .cell v) :
    Inv X ((u, o) :: pins) σ H { s with heap := h2, toks := t' } := by
  have I1 : Inv X pins σ H { s with heap := h2, toks := t' } := I.kept k
  obtain ⟨f0, f1, f2, _⟩ := I.fpOk hu (I.hok.fresh hu)
  refine I1.pins_of fun p hp => ?_
  rcases List.mem_cons.mp hp with rfl | hp
  · exact ⟨e, f0, f1, f2, nc⟩
  · exact I1.pin p (List.mem_append_right _ hp)
theorem unpin {p : Addr × Obj} (I : Inv X (p :: pins) σ H s) : Inv X pins σ H s := I.pins_of fun q hq => I.pin q (List.mem_append_right _ (List.mem_cons_of_mem _ hq))
/-- the wrapped __init__ of the built-in class, called -/
theorem call_mw {u : Addr} {rest : List Value} {Q : Value → Shared → Prop} {A : Around} {E : Value → Shared → Prop} (T : OexC X.K C) (I : Inv X pins σ H s) (e : H a = some (exo a C none)) (hu : s.heap.get? u = some (PySem.W.kxs_mw "ValueError.__init__" a)) (hl : rest.length ≤ sizeLine)
    (h : ∀ s', Inv X pins σ H s' → Q .none s') : wpAny (model X.prog X.w) A (call (.ref u) rest) Q E s := by
  obtain ⟨nm, q, N, bs, bm, sn, sub, ab, col, dd, k0, k1, k2, k3, k5, hC, hbm⟩ := T.cls
  obtain ⟨t1, ho⟩ := exo_at I.hok e
  have hC' := I.kIn _ _ hC
  have fin : ∀ h2 t2, (∀ b o, b ≠ a → s.heap.get? b = some o → h2.get? b = some o) → h2.get? a = some ({ cls := .ref C, dict := none, data := .fields #[.ref t2, .none, .none, .none, .bool false, .none] } : Obj) → Q .none { s with heap := h2 } := fun h2 t2 k hx => by
    have J := I.write (t' := s.toks) (x := a) (e := a) (o := exo a C none) (by rw [e]; exact True.intro) (.inl rfl) k ⟨_, hx⟩ (exo_ok hx)
    have eu : upd H a (exo a C none) = H := by
      funext b
      by_cases hb : b = a
      · rw [hb, upd_same, e]
      · rw [upd_ne hb]
    rw [eu] at J
    exact h _ J
  obtain ⟨hp, g, d, t, os⟩ := s
  refine wpAny_call (codeAny_of_tree ?_)
  show wpAny _ A.in1 (callAny (.ref u) ⟨rest, []⟩) _ _ _
  simp only [callAny]
  refine wpAny_bind (wpAny_load hu ?_)
  simp only [PySem.W.kxs_mw, show (Value.type "method-wrapper" == Value.type "method" || Value.type "method-wrapper" == Value.type "builtin_function_or_method" || Value.type "method-wrapper" == Value.type "method-wrapper") = true by decide, if_true]
  refine PySem.W.KFB.if_so (by decide) ?_
  refine wpAny_bind (PySem.W.check_bound_init F.excBase_ValueError.toExcCallFacts hC' ho rfl ?_)
  refine wpAny_bind (wpAny_pure (wpAny_pure ?_))
  refine ⟨plainId_quiet F.excBase_ValueError.init.plain _, codeAny_builtin F.excBase_ValueError.initEntry ?_⟩
  exact PySem.W.exc_init_tree (cls := .ref C) (t0 := t1) (dv := none) (c2 := .none) (c3 := .none) (b4 := .bool false) ho hl fun h2 k e2 _ => fin h2 _ k e2
end
/-- what the written part says of a method that calls super -/
structure SupF (P : Program) (K : PySem.W.Frag) (C f cell cda : Addr) (params : Arguments) (fd : FuncData) : Prop where
  lk : ∃ oc od osl, K.lookup f = some ⟨oc, od, .func fd, osl⟩
  pa : fd.params = params
  file : ∃ (oc : Value) (od : Option Addr) (vs : Array Value) (sl : Array (Option Value)) (fl : Str) (tf : Tok), K.lookup cda = some ⟨oc, od, .fields vs, sl⟩ ∧ vs[2]? = some (.str fl tf) ∧ ((P.main.file : Str) == fl) = true
  cell : ∃ (oc : Value) (od : Option Addr) (sl : Array (Option Value)), K.lookup cell = some ⟨oc, od, .cell (some (.ref C)), sl⟩
  cls : (PySem.W.clsIn K C).isSome = true
  self : PySem.W.mroIn K C (.ref C) = some true
  along : PySem.W.ks_superIn K C C "__init__" = some (some (.builtin "ValueError.__init__"))
  sub : PySem.W.subIn K (.ref C) (.type "ValueError") = some true
  stat : PySem.W.nsIn K cStatics "thirdparty.any" = some none
  top : (P.main.scope.names.lookup ("super" : Str)).isSome = false
section
variable {X : Cx} {pins : List (Addr × Obj)} {σ : L2.St} {H : Hp} {s : Shared} {a C f cc cda : Addr} {params : Arguments} {fd : FuncData}
/-- super() -/
theorem super_node {body : List Stmt} {p0 p1 : Pos} {attr : Str} {whole : Sem Value} {ar : Arg} {Q : Value → Shared → Prop} (F : SupF X.prog X.K C f cc cda params fd) (I : Inv X pins σ H s) (T : OexC X.K C) (ha : H a = some (exo a C none))
    (hfu : X.env.func = some f) (hco : X.env.code = .ref cda) (hce : X.env.cells.lookup ("__class__" : Str) = some cc) (hp : (params.posonlyargs ++ params.args).head? = some ar) (i : Nat) (hN : X.N[i]? = some ar.arg) (hσ : σ[i]? = some (some (.ref a)))
    (hat : (attr == ("__class__" : Str)) = false) (hks : X.env.kindOf ("super" : Str) = some .globalImplicit) (hkc : X.env.kindOf ("__class__" : Str) = some .free) (hka : X.env.kindOf ar.arg = some .local) (hm : X.mg "super" = none)
    (h : ∀ so s', Inv X ((so, PySem.W.ks_superObj C a C) :: pins) σ H s' → Q (.ref so) s') :
    _root_.PySem.wpAt (model X.prog X.w) X.A (.func body X.env) (attributeBase (.Call (.Name "super" p0) [] [] p1) attr X.env whole) Q X.xe s := by
  obtain ⟨oc1, od1, osl1, lk⟩ := F.lk
  obtain ⟨oc2, od2, vs2, sl2, fl, tf, hcode, hvs, hfile⟩ := F.file
  obtain ⟨oc3, od3, sl3, hcell⟩ := F.cell
  obtain ⟨cd, hcd⟩ := Option.isSome_iff_exists.mp F.cls
  have KX := I.kIn
  obtain ⟨oD, hD1, hD2⟩ : ∃ oD, s.heap.get? C = some oD ∧ oD.data = .cls cd := by
    unfold PySem.W.clsIn at hcd
    split at hcd
    · rename_i c d cd' sl ho
      cases hcd
      exact ⟨_, KX _ _ ho, rfl⟩
    · cases hcd
  obtain ⟨t1, ho⟩ := exo_at I.hok ha
  have hk := I.ok.kind
  refine ks_wpAt_super_base hks hkc hat hfu (KX _ _ lk) rfl (by rw [F.pa]; exact hp) hco (KX _ _ hcode) rfl hvs hfile F.top ?_
  obtain ⟨mb, b1, b2⟩ := I.mod.blt
  refine PySem.W.ks_loadName_global hk hks (Calls.loadGlobal_builtin (by rw [I.ok.glob]; exact I.mod.glob.keeps I.bk) hm (by rw [I.ok.blt]; exact b1.keeps I.bk) ((b2 _ (by decide +kernel)).trans PyProof.Rows.Boot.«super») ⟨rfl, ?_⟩)
  refine wpAny_loadName_free hk hkc hce ⟨_, KX _ _ hcell, rfl⟩ ?_
  obtain ⟨m, hn, hl⟩ := I.loc
  obtain ⟨v, rv, lv⟩ := hl i ar.arg (.ref a) hN hσ (.inl hka)
  obtain rfl : v = Value.ref a := rv
  have hv : m ar.arg = some (.ref a) := by
    rcases lv with ⟨_, z⟩ | ⟨z, _⟩
    · exact z
    · rcases z with z | z <;> rw [hka] at z <;> cases z
  refine wpAny_loadName_local hk hka hn hv ?_
  obtain ⟨hh, g, d, t, os⟩ := s
  refine ks_wpAny_isType_cls hD1 hD2 ⟨rfl, ?_⟩
  refine ks_wpAny_call_super hD1 hD2 ho rfl (fun c e => by cases e) (PySem.W.looks_mroIn KX F.self) (fun h2 e k => ?_)
  exact h _ _ (pin_new (t' := t) I (Nat.le_refl _) e k fun v z => by cases z)
/-- its __init__, looked up -/
theorem super_meth {so : Addr} {pl : Sem Bool} {Q : Value × List Value → Shared → Prop} {A : Around} {E : Value → Shared → Prop} (F : SupF X.prog X.K C f cc cda params fd) (I : Inv X ((so, PySem.W.ks_superObj C a C) :: pins) σ H s) (ha : H a = some (exo a C none))
    (h : ∀ u s', Inv X ((u, PySem.W.kxs_mw "ValueError.__init__" a) :: pins) σ H s' → Q (.ref u, []) s') : wpAny (model X.prog X.w) A (getMethod (.ref so) "__init__" pl) Q E s := by
  have KX := I.kIn
  obtain ⟨cd, hcd⟩ := Option.isSome_iff_exists.mp F.cls
  have al := F.along
  unfold PySem.W.ks_superIn at al
  rw [hcd] at al
  obtain ⟨t1, ho⟩ := exo_at I.hok ha
  have hso := (I.pin (so, PySem.W.ks_superObj C a C) (List.mem_append_right _ List.mem_cons_self)).1
  have IA : PySem.W.InstAt s.heap a ({ cls := .ref C, dict := none, data := .fields #[.ref t1, .none, .none, .none, .bool false, .none] } : Obj) C none := ⟨ho, rfl, rfl, trivial⟩
  have hI : PySem.W.Looks (model X.prog X.w) s.heap (isInstance (.ref a) (.type "ValueError")) true := IA.type.andThen (PySem.W.looks_subIn KX F.sub)
  have I0 := unpin I
  obtain ⟨hh, g, d, t, os⟩ := s
  refine PySem.W.kxs_getMethod PySem.W.kxs_ValueError hso (PySem.W.looks_opaque KX F.stat) (l₀ := cd.mro) ?_ rfl KX al hI (PySem.W.ks_ne KX IA hcd) (by decide +kernel) ?_
  · exact fun A Q E s k q => wpAny_bind ((PySem.W.looks_clsIn KX hcd) A _ E s k (wpAny_pure q))
  · exact h _ _ (pin_new (t' := t + 1) I0 (Nat.le_refl _) (Heap.get?_push_at rfl rfl) (fun b o e => Heap.get?_push_of_some _ e) fun v z => by cases z)
/-- super().__init__(e), then the rest -/
theorem super_init {body rest : List Stmt} {p0 p1 p2 p3 p4 : Pos} {e : Expr} {te : TE} {tr : TS} {ar : Arg} {D : Ends} {pl : Sem Bool} (F : SupF X.prog X.K C f cc cda params fd) (I : Inv X [] σ H s) (T : OexC X.K C) (ha : H a = some (exo a C none))
    (hfu : X.env.func = some f) (hco : X.env.code = .ref cda) (hce : X.env.cells.lookup ("__class__" : Str) = some cc) (hp : (params.posonlyargs ++ params.args).head? = some ar) (i : Nat) (hN : X.N[i]? = some ar.arg) (hσ : σ[i]? = some (some (.ref a)))
    (hks : X.env.kindOf ("super" : Str) = some .globalImplicit) (hkc : X.env.kindOf ("__class__" : Str) = some .free) (hka : X.env.kindOf ar.arg = some .local) (hm : X.mg "super" = none) (he : PE X e te) (hr : PSs X rest tr)
    (hq : te σ H fun x H1 => [x].length ≤ 1 ∧ H1 a = some (exo a C none) ∧ tr D σ H1)
    (hev : eval (.Call (.Attribute (.Call (.Name "super" p0) [] [] p1) "__init__" p2) [e] [] p3) X.env = (do
      let ov ← attributeBase (.Call (.Name "super" p0) [] [] p1) "__init__" X.env (eval (.Call (.Name "super" p0) [] [] p1) X.env)
      standAt p2.atName
      let (f, first) ← holding [ov] (getMethod ov "__init__" pl)
      callWith p3 f first (backTo p3 (starEach [e] X.env)) []) := by rfl)
    (hi : interactive X.env = false := by rfl) (hs : swapsWith (.Call (.Attribute (.Call (.Name "super" p0) [] [] p1) "__init__" p2) [e] [] p3) none p4.line X.env = pure false := by rfl)
    (hse : starEach [e] X.env = (false, eval e X.env) :: starEach [] X.env := by rfl) (hpl : (backTo p3 (starEach [] X.env)).any (·.1) = false := by rfl) :
    _root_.PySem.wpAt (model X.prog X.w) X.A (.func body X.env) (execs (.Expr (.Call (.Attribute (.Call (.Name "super" p0) [] [] p1) "__init__" p2) [e] [] p3) p4 :: rest) X.env) (SP X [] D) X.xe s := by
  refine ks_wpAt_execs_cons (ks_wpAt_Expr_any (ks_wpAt_MethodCall (super_node F I T ha hfu hco hce hp i hN hσ (by decide +kernel) hks hkc hka hm fun so s1 I1 => super_meth F I1 ha fun u s2 I2 => ?_) hev) hi hs)
  have hPA : PA X [e] (tCons te tNil) := pa_cons he pa_nil hse
  rw [hse]
  refine PySem.W.kxs_callWith (i := "ValueError.__init__") (x := a) (by show (false || (backTo p3 (starEach [] X.env)).any (·.1)) = false; rw [hpl]; rfl) (Calls.evalArgs_plain ?_)
  have run := hPA.run p3 [(u, PySem.W.kxs_mw "ValueError.__init__" a)] s2 σ H (fun vs H1 => vs.length ≤ 1 ∧ H1 a = some (exo a C none) ∧ tr D σ H1) I2 hq
  rw [hse] at run
  refine thn run fun us s3 hh => ?_
  obtain ⟨vs, H1, I3, r1, hl1, ha1, q1⟩ := hh
  have hu := (I3.pin (u, PySem.W.kxs_mw "ValueError.__init__" a) (List.mem_append_right _ List.mem_cons_self)).1
  exact ⟨hu, call_mw T (unpin I3) ha1 hu (show us.length ≤ sizeLine by rw [← r1.length]; exact line5 (Nat.le_trans hl1 (by decide))) fun s4 I4 => wpAt_of_wpAny (hr.run [] s4 σ H1 D I4 q1)⟩
end
end Bm
set_option maxHeartbeats 1000000
namespace Bm
open PySem PySem.Spec PyProof.Rows L2
section
variable {P : Program} {w : World} {K : PySem.W.Frag} {mg : Str → Option Value} {base : Heap} {CX : CXT} {N ps : List Str} {name qual : Str} {params : Arguments} {scope : Scope} {dV kV doc pm ct : Value} {an : Option Addr} {C f cell cda : Addr} {k : Nat} {sp : Sp}
  {rest : List Stmt} {p0 p1 p2 p3 p4 : Pos} {e : Expr} {ar : Arg}
/-- the words of the method, for a frame's context -/
abbrev MF (name qual : Str) (params : Arguments) (body : List Stmt) (scope : Scope) (cell cda : Addr) : NdefX.NF := ⟨name, qual, params, body, scope, [("__class__", cell)], cda⟩
abbrev superSt (p0 p1 p2 p3 p4 : Pos) (e : Expr) : Stmt := .Expr (.Call (.Attribute (.Call (.Name "super" p0) [] [] p1) "__init__" p2) [e] [] p3) p4
/-- THE RULE: an error's __init__ that calls super first -/
theorem init_fn (F : SupF P K C f cell cda params (PySem.W.fnX name qual params (superSt p0 p1 p2 p3 p4 e :: rest) scope [("__class__", cell)] dV kV doc pm an (.ref cda) ct)) (T : OexC K C) (hcd : PySem.W.codeIn K (.ref cda) qual = true) (S : NdefX.NScope N ps ["__class__"] scope)
    (hpa : (params.posonlyargs ++ params.args).head? = some ar) (hN : N[0]? = some ar.arg) (hks : scope.names.lookup ("super" : Str) = some .globalImplicit) (hka : scope.names.lookup ar.arg = some .local) (hm : mg "super" = none) (hint : ∀ L : Addr, interactive (NdefX.envF (MF name qual params (superSt p0 p1 p2 p3 p4 e :: rest) scope cell cda) f L) = false) (len : ∀ vs H Q E, sp vs H Q E → vs.length = ps.length)
    (hbody : ∀ (A : Around) (outer : List Env) (s : Shared) (H : Hp) (vs : List V) (Q : VK) (E : XK), sp vs H Q E → ∃ (te : TE) (tr : TS) (a : Addr) (pl : Sem Bool), vs[0]? = some (.ref a) ∧ H a = some (exo a C none) ∧
      PE (NdefX.ncx CX P w K mg base N (MF name qual params (superSt p0 p1 p2 p3 p4 e :: rest) scope cell cda) f A outer s H E) e te ∧ PSs (NdefX.ncx CX P w K mg base N (MF name qual params (superSt p0 p1 p2 p3 p4 e :: rest) scope cell cda) f A outer s H E) rest tr ∧
      eval (.Call (.Attribute (.Call (.Name "super" p0) [] [] p1) "__init__" p2) [e] [] p3) (NdefX.envF (MF name qual params (superSt p0 p1 p2 p3 p4 e :: rest) scope cell cda) f s.heap.objs.size) = (do
        let ov ← attributeBase (.Call (.Name "super" p0) [] [] p1) "__init__" (NdefX.envF (MF name qual params (superSt p0 p1 p2 p3 p4 e :: rest) scope cell cda) f s.heap.objs.size) (eval (.Call (.Name "super" p0) [] [] p1) (NdefX.envF (MF name qual params (superSt p0 p1 p2 p3 p4 e :: rest) scope cell cda) f s.heap.objs.size))
        standAt p2.atName
        let (f', first) ← holding [ov] (getMethod ov "__init__" pl)
        callWith p3 f' first (backTo p3 (starEach [e] (NdefX.envF (MF name qual params (superSt p0 p1 p2 p3 p4 e :: rest) scope cell cda) f s.heap.objs.size))) []) ∧
      swapsWith (.Call (.Attribute (.Call (.Name "super" p0) [] [] p1) "__init__" p2) [e] [] p3) none p4.line (NdefX.envF (MF name qual params (superSt p0 p1 p2 p3 p4 e :: rest) scope cell cda) f s.heap.objs.size) = pure false ∧
      starEach [e] (NdefX.envF (MF name qual params (superSt p0 p1 p2 p3 p4 e :: rest) scope cell cda) f s.heap.objs.size) = (false, eval e (NdefX.envF (MF name qual params (superSt p0 p1 p2 p3 p4 e :: rest) scope cell cda) f s.heap.objs.size)) :: starEach [] (NdefX.envF (MF name qual params (superSt p0 p1 p2 p3 p4 e :: rest) scope cell cda) f s.heap.objs.size) ∧
      te (NdefX.startF N vs [some (.ref C)]) H (fun x H1 => [x].length ≤ 1 ∧ H1 a = some (exo a C none) ∧ tr { nx := fun _ H2 => Q .non H2, rt := Q } (NdefX.startF N vs [some (.ref C)]) H1)) :
    FnOk P w K mg base CX (k + 1) f (PySem.W.fnX name qual params (superSt p0 p1 p2 p3 p4 e :: rest) scope [("__class__", cell)] dV kV doc pm an (.ref cda) ct) ps sp := by
  refine ⟨len, fun A outer s H args us vs Q E hr e0 hb r hsp => ?_⟩
  have hl := len _ _ _ _ hsp
  have KX : K.In s.heap := e0.mod.kin.keeps fun b o z => (e0.bs b o z).1
  have lim : s.heap.NoLimit := e0.mod.nolimit.keeps fun b o z => (e0.bs b o z).1
  obtain ⟨oc1, od1, osl1, lk⟩ := F.lk
  obtain ⟨oc3, od3, sl3, hcell⟩ := F.cell
  obtain ⟨te, tr, a, pl, hv0, ha, he, hr', hev, hsw, hse, hq⟩ := hbody A outer s H vs Q E hsp
  have hcl : H cell = none ∧ s.heap.IsCell cell (some (.ref C)) := ⟨(e0.bs _ _ (e0.mod.kin _ _ hcell)).2, _, KX _ _ hcell, rfl⟩
  have CA : NdefX.CellsAt [("__class__", cell)] ["__class__"] [some (.ref C)] s.heap H := by
    have look : ∀ y c, ([("__class__", cell)] : List (Str × Addr)).lookup y = some c → y = "__class__" ∧ c = cell := fun y c z => by
      rw [List.lookup_cons] at z
      by_cases q : y = "__class__"
      · subst q
        rw [beq_self_eq_true] at z
        exact ⟨rfl, (Option.some.inj z).symm⟩
      · rw [beq_eq_false_iff_ne.mpr q] at z
        cases z
    refine ⟨rfl, fun y c z => ?_, fun x y c z1 z2 => by rw [(look _ _ z1).1, (look _ _ z2).1], fun i y z => ?_⟩
    · rw [(look _ _ z).2]
      exact ⟨hcl.1, _, hcl.2⟩
    · cases i with
      | succ i => cases z
      | zero =>
        cases z
        exact ⟨cell, rfl, fun v z => by
          have z1 : some (some (V.ref C)) = some (some v) := z
          cases z1
          exact ⟨.ref C, rfl, hcl.2⟩⟩
  refine ks_codeAny_call_defAt (binds := ps.zip us) hr.depth (KX _ _ lk) rfl lim (PySem.W.codeRec_of KX hcd) rfl hb S.nocell (fun ⟨n, _⟩ hy => S.par n (List.of_mem_zip hy).1) (fun h₁ hns kp => ?_) S.co S.gen S.kind
  have I : L2.Inv (NdefX.ncx CX P w K mg base N (MF name qual params (superSt p0 p1 p2 p3 p4 e :: rest) scope cell cda) f A outer s H E) [] (NdefX.startF N vs [some (.ref C)]) H { s with heap := h₁, toks := s.toks + (ps.zip us).length } :=
    NdefX.inv_startN (F := MF name qual params (superSt p0 p1 p2 p3 p4 e :: rest) scope cell cda) S hr.hd e0 hl r CA hns kp
  have hσ : (NdefX.startF N vs [some (.ref C)])[0]? = some (some (.ref a)) := by
    unfold NdefX.startF
    cases vs with
    | nil => cases hv0
    | cons v vr =>
      cases hv0
      rfl
  have run := super_init (X := NdefX.ncx CX P w K mg base N (MF name qual params (superSt p0 p1 p2 p3 p4 e :: rest) scope cell cda) f A outer s H E) (body := superSt p0 p1 p2 p3 p4 e :: rest) (rest := rest) (p4 := p4) (pl := pl) F I T ha rfl rfl rfl hpa 0 hN hσ hks (S.frk _ (List.mem_singleton.mpr rfl)) hka hm he hr' hq hev (hint _) hsw hse rfl
  refine ks_wpAt_mono run (fun fl s' hs => ?_) fun e' s' hs => hs
  have fin : ∀ {σ' : L2.St} {H' : Hp} {v : V} {u : Value}, L2.Inv (NdefX.ncx CX P w K mg base N (MF name qual params (superSt p0 p1 p2 p3 p4 e :: rest) scope cell cda) f A outer s H E) [] σ' H' s' → L2.RelV v u → Q v H' → CE outer P w H s Q u s' :=
    fun {σ' H' v u} J rv q => ⟨v, H', J.os, J.bare, J.base, J.hok, rv, q⟩
  cases fl with
  | ret u =>
    obtain ⟨v, σ', H', J, rv, q⟩ := hs
    exact fin J rv q
  | next =>
    obtain ⟨σ', H', J, q⟩ := hs
    exact fin (v := V.non) (u := Value.none) J rfl q
  | brk =>
    obtain ⟨_, _, _, q⟩ := hs
    exact False.elim q
  | cont =>
    obtain ⟨_, _, _, q⟩ := hs
    exact False.elim q
/-- the same, of a body that is such a one -/
theorem init_fn2 {body : List Stmt} (hbd : body = superSt p0 p1 p2 p3 p4 e :: rest) (F : SupF P K C f cell cda params (PySem.W.fnX name qual params body scope [("__class__", cell)] dV kV doc pm an (.ref cda) ct)) (T : OexC K C) (hcd : PySem.W.codeIn K (.ref cda) qual = true) (S : NdefX.NScope N ps ["__class__"] scope)
    (hpa : (params.posonlyargs ++ params.args).head? = some ar) (hN : N[0]? = some ar.arg) (hks : scope.names.lookup ("super" : Str) = some .globalImplicit) (hka : scope.names.lookup ar.arg = some .local) (hm : mg "super" = none) (hint : ∀ L : Addr, interactive (NdefX.envF (MF name qual params body scope cell cda) f L) = false)
    (len : ∀ vs H Q E, sp vs H Q E → vs.length = ps.length)
    (hbody : ∀ (A : Around) (outer : List Env) (s : Shared) (H : Hp) (vs : List V) (Q : VK) (E : XK), sp vs H Q E → ∃ (te : TE) (tr : TS) (a : Addr) (pl : Sem Bool), vs[0]? = some (.ref a) ∧ H a = some (exo a C none) ∧
      PE (NdefX.ncx CX P w K mg base N (MF name qual params body scope cell cda) f A outer s H E) e te ∧ PSs (NdefX.ncx CX P w K mg base N (MF name qual params body scope cell cda) f A outer s H E) rest tr ∧
      eval (.Call (.Attribute (.Call (.Name "super" p0) [] [] p1) "__init__" p2) [e] [] p3) (NdefX.envF (MF name qual params body scope cell cda) f s.heap.objs.size) = (do
        let ov ← attributeBase (.Call (.Name "super" p0) [] [] p1) "__init__" (NdefX.envF (MF name qual params body scope cell cda) f s.heap.objs.size) (eval (.Call (.Name "super" p0) [] [] p1) (NdefX.envF (MF name qual params body scope cell cda) f s.heap.objs.size))
        standAt p2.atName
        let (f', first) ← holding [ov] (getMethod ov "__init__" pl)
        callWith p3 f' first (backTo p3 (starEach [e] (NdefX.envF (MF name qual params body scope cell cda) f s.heap.objs.size))) []) ∧
      swapsWith (.Call (.Attribute (.Call (.Name "super" p0) [] [] p1) "__init__" p2) [e] [] p3) none p4.line (NdefX.envF (MF name qual params body scope cell cda) f s.heap.objs.size) = pure false ∧
      starEach [e] (NdefX.envF (MF name qual params body scope cell cda) f s.heap.objs.size) = (false, eval e (NdefX.envF (MF name qual params body scope cell cda) f s.heap.objs.size)) :: starEach [] (NdefX.envF (MF name qual params body scope cell cda) f s.heap.objs.size) ∧
      te (NdefX.startF N vs [some (.ref C)]) H (fun x H1 => [x].length ≤ 1 ∧ H1 a = some (exo a C none) ∧ tr { nx := fun _ H2 => Q .non H2, rt := Q } (NdefX.startF N vs [some (.ref C)]) H1)) :
    FnOk P w K mg base CX (k + 1) f (PySem.W.fnX name qual params body scope [("__class__", cell)] dV kV doc pm an (.ref cda) ct) ps sp := by
  subst hbd
  exact init_fn F T hcd S hpa hN hks hka hm hint len hbody
end
end Bm
set_option maxHeartbeats 1000000
namespace Bm
open PySem PySem.Spec PyProof.Rows L2
/-! methods with cells, read off the written part -/
abbrev FnCl : Type := Option (Str × Str × Arguments × FuncBody × Scope × Addr × List Str × Addr)
def fnCl (K : PySem.W.Frag) (p : Str × Option Str) : FnCl := match K.lookup (He.fAd K p) with
  | some ⟨_, _, .func g, _⟩ => some (g.name, g.qualname, g.params, g.body, g.scope, g.globals, g.closure.map Prod.fst, g.builtins)
  | _ => none
/-- a class's __init__: class, qualified name, its def -/
structure DefI where
  cls : Str
  qual : Str
  st : Stmt
def DefI.val (d : DefI) : FnCl := some ("__init__", d.qual, defArgs d.st, .stmts (defBody d.st), defScope d.st, mainGlobals, ["__class__"], builtinsNs)
def DefI.at_ (d : DefI) : Str × Option Str := (d.cls, some "__init__")
/-- what is reached from the globals in so many steps; what was met is kept as bits of a number, which the kernel reckons fast -/
def refB (acc : Nat × List Addr) (a : Addr) : Nat × List Addr := if Nat.beq ((acc.1 >>> a) % 2) 1 = true then acc else (acc.1 ||| (1 <<< a), a :: acc.2)
def levB (g : Addr → Option Obj) (fr : List Addr) (seen : Nat) : Nat × List Addr := fr.foldl (fun acc a => match g a with
  | some o => (He.refsD o).foldl refB acc
  | none => acc) (seen, [])
def groB (g : Addr → Option Obj) : Nat → Nat → List Addr → List Addr
  | 0, _, fr => fr
  | n + 1, seen, fr => match levB g fr seen with
    | (s', new) => fr ++ groB g n s' new
def asC (g : Addr → Option Obj) (n : Nat) : List Addr := groB g n (1 <<< mainGlobals) [mainGlobals] ++ [cStatics]
/-- all that is told of the head -/
structure SaysI (fa : List He.Fa) (fn : List He.DefD) (ts : List He.Tab) (tf : List He.Defn) (ci : List DefI) (ex : PySem.W.Frag → Bool) (w : World) (h : Heap) (K : PySem.W.Frag) : Prop where
  x : He.SaysX fa fn ts tf ex w h K
  cl : ci.map (fun d => fnCl K d.at_) = ci.map DefI.val
abbrev AlI : Type := He.AlX × List FnCl
def obsI (n : Nat) (fa : List He.Fa) (fn : List He.DefD) (ts : List He.Tab) (tf : List He.Defn) (ci : List DefI) (ex : PySem.W.Frag → Bool) (g : Addr → Option Obj) : AlI :=
  ((He.obsT fa fn ts (He.frT g (asC g n)), ex (He.frT g (asC g n)) && He.tabsB g tf (He.frT g (asC g n))), ci.map fun d => fnCl (He.frT g (asC g n)) d.at_)
def valI (fn : List He.DefD) (ts : List He.Tab) (ci : List DefI) (w : World) : AlI := (He.valX fn ts w, ci.map DefI.val)
theorem saysI_of {n : Nat} {fa : List He.Fa} {fn : List He.DefD} {ts : List He.Tab} {tf : List He.Defn} {ci : List DefI} {ex : PySem.W.Frag → Bool} {w : World} {h : Heap} (e : obsI n fa fn ts tf ci ex h.get? = valI fn ts ci w) : SaysI fa fn ts tf ci ex w h (He.frT h.get? (asC h.get? n)) := by
  have e0 := congrArg (fun z : AlI => z.1) e
  have e3 : ci.map (fun d => fnCl (He.frT h.get? (asC h.get? n)) d.at_) = ci.map DefI.val := congrArg (fun z : AlI => z.2) e
  generalize hK : He.frT h.get? (asC h.get? n) = K at *
  have e1 : He.obsT fa fn ts K = He.valT fn ts w := by
    rw [← hK]
    exact congrArg (fun z : He.AlX => z.1) e0
  have e2 : (ex K && He.tabsB h.get? tf K) = true := by
    rw [← hK]
    exact congrArg (fun z : He.AlX => z.2) e0
  obtain ⟨h1, h2⟩ := He.ba e2
  have all : ∀ p ∈ tf, PySem.W.codeHdIn K (He.cT K p).1 (He.cT K p).2 = true ∧ ∃ o, h.get? (He.cT K p).2 = some o ∧ He.emptyTab o = true := fun p hp => by
    obtain ⟨g1, g2⟩ := He.ba (List.all_eq_true.mp h2 p hp)
    refine ⟨g1, ?_⟩
    cases q : h.get? (He.cT K p).2 with
    | none => rw [q] at g2; cases g2
    | some o => rw [q] at g2; exact ⟨o, rfl, g2⟩
  refine ⟨⟨e1, h1, fun p hp => (all p hp).1, fun p hp => ?_, fun p hp => ?_⟩, e3⟩
  · obtain ⟨_, o, q, z⟩ := all p hp
    rw [← hK] at q ⊢
    exact He.frT_none q z
  · obtain ⟨_, o, q, z⟩ := all p hp
    rw [q, He.emptyTab_eq z]
def hookI (n : Nat) (fa : List He.Fa) (fn : List He.DefD) (ts : List He.Tab) (tf : List He.Defn) (ci : List DefI) (ex : PySem.W.Frag → Bool) : PySem.W.Hook where
  α := AlI
  obs := fun s => obsI n fa fn ts tf ci ex s.heap.get?
  val := fun w => valI fn ts ci w
  says := fun w h => ∃ K : PySem.W.Frag, K.In h ∧ SaysI fa fn ts tf ci ex w h K
  of := fun w s e => ⟨_, He.frT_in, saysI_of e⟩
  keeps := fun w h h2 ⟨K, hK, c⟩ k => ⟨K, PySem.W.Frag.In.keeps hK k, ⟨⟨c.x.t, c.x.more, c.x.hd, c.x.out, fun p hp => k _ _ (c.x.empty p hp)⟩, c.cl⟩⟩
theorem obsI_eq {n : Nat} {fa : List He.Fa} {fn : List He.DefD} {ts : List He.Tab} {tf : List He.Defn} {ci : List DefI} {ex : PySem.W.Frag → Bool} {g : Addr → Option Obj} {s : Shared} (h : ∀ a, g a = s.heap.get? a) : obsI n fa fn ts tf ci ex g = (hookI n fa fn ts tf ci ex).obs s := by
  obtain rfl : g = s.heap.get? := funext h
  rfl
/-! errors that bear something -/
def oexB (K : PySem.W.Frag) (C : Addr) : Bool := (match K.lookup C with
  | some ⟨.type t, _, .cls cd, sl⟩ => decide (t = "type") && (match cd.mro, sl.toList with
    | .ref C' :: bm, [_, _, _, _, some (.builtin n), _] => decide (C' = C) && (decide (n = "ValueError.__new__") && (!cd.hasDel && (cd.hasDict && PySem.HandSPX.refsVE bm)))
    | _, _ => false)
  | _ => false) && (He.eqO (PySem.W.findIn K (.ref C) "__setattr__") (some (some (.builtin "object.__setattr__"))) && (decide (PySem.W.subIn K (.ref C) (.type "BaseException") = some true) && (decide (PySem.W.typeIn K (.ref C) = some (.type "type")) && PySem.W.keepIn K (.ref C))))
theorem oexB_ok {K : PySem.W.Frag} {C : Addr} (h : oexB K C = true) : OexC K C := by
  obtain ⟨h1, h⟩ := He.ba h
  obtain ⟨h2, h⟩ := He.ba h
  obtain ⟨h3, h⟩ := He.ba h
  obtain ⟨h4, h5⟩ := He.ba h
  refine ⟨?_, He.eqO_ok h2, of_decide_eq_true h3, of_decide_eq_true h4, h5⟩
  clear h2 h3 h4 h5 h
  split at h1
  · rename_i t dd cd sl ho
    obtain ⟨g1, g2⟩ := He.ba h1
    have g1 := of_decide_eq_true g1
    subst g1
    split at g2
    · rename_i C' bm k0 k1 k2 k3 n k5 hm hs
      obtain ⟨z1, z⟩ := He.ba g2
      obtain ⟨z2, z⟩ := He.ba z
      obtain ⟨z3, z⟩ := He.ba z
      obtain ⟨z4, z5⟩ := He.ba z
      have z1 := of_decide_eq_true z1
      have z2 := of_decide_eq_true z2
      subst z1 z2
      obtain ⟨nm, bs, mro, ns, qn, hd, sn, sub, ab, col, dl⟩ := cd
      dsimp only at hm z3 z4
      have z3 : dl = false := by simpa using z3
      subst hm z3 z4
      have hsl : sl = #[k0, k1, k2, k3, some (.builtin "ValueError.__new__"), k5] := by
        obtain ⟨l⟩ := sl
        simp only at hs
        rw [hs]
      subst hsl
      exact ⟨nm, qn, ns, bs, bm, sn, sub, ab, col, dd, k0, k1, k2, k3, k5, ho, z5⟩
    · cases g2
  · cases h1
/-- the written part of such a class's __init__ (file: the program's own name) -/
def supB (K : PySem.W.Frag) (file : Str) (x qual : Str) : Bool :=
  (match K.lookup (He.fAd K (x, some "__init__")) with
  | some ⟨_, _, .func g, _⟩ => (match g.code, g.closure with
    | .ref cda, [(_, cell)] => decide (g.defaults = .none) && (PySem.W.codeIn K (.ref cda) qual && ((match K.lookup cda with
      | some ⟨_, _, .fields vs, _⟩ => (match (vs[2]? : Option Value) with
        | some (.str fl _) => file == fl
        | _ => false)
      | _ => false) && (match K.lookup cell with
      | some ⟨_, _, .cell (some (.ref D)), _⟩ => decide (D = He.ga K x)
      | _ => false)))
    | _, _ => false)
  | _ => false) && ((PySem.W.clsIn K (He.ga K x)).isSome && (decide (PySem.W.mroIn K (He.ga K x) (.ref (He.ga K x)) = some true) && (He.eqO (PySem.W.ks_superIn K (He.ga K x) (He.ga K x) "__init__") (some (some (.builtin "ValueError.__init__"))) &&
    (decide (PySem.W.subIn K (.ref (He.ga K x)) (.type "ValueError") = some true) && (He.eqO (PySem.W.nsIn K cStatics "thirdparty.any") (some none) && (oexB K (He.ga K x) &&
    (He.eqO (PySem.W.findIn K (.ref (He.ga K x)) "__init__") (some (some (.ref (He.fAd K (x, some "__init__"))))) && decide (PySem.W.typeIn K (.ref (He.fAd K (x, some "__init__"))) = some (.type "function")))))))))
structure SupI (P : Program) (K : PySem.W.Frag) (x qual : Str) (st : Stmt) : Prop where
  f : ∃ (cell cda : Addr) (kV doc pm ct : Value) (an : Option Addr), SupF P K (He.ga K x) (He.fAd K (x, some "__init__")) cell cda (defArgs st) (PySem.W.fnX "__init__" qual (defArgs st) (defBody st) (defScope st) [("__class__", cell)] .none kV doc pm an (.ref cda) ct) ∧ PySem.W.codeIn K (.ref cda) qual = true
  o : OexC K (He.ga K x)
  i : PySem.W.findIn K (.ref (He.ga K x)) "__init__" = some (some (.ref (He.fAd K (x, some "__init__"))))
  t : PySem.W.typeIn K (.ref (He.fAd K (x, some "__init__"))) = some (.type "function")
theorem supI_of {P : Program} {K : PySem.W.Frag} {x qual : Str} {st : Stmt} (h : supB K P.main.file x qual = true) (e : fnCl K (x, some "__init__") = (DefI.mk x qual st).val) (top : (P.main.scope.names.lookup ("super" : Str)).isSome = false) : SupI P K x qual st := by
  obtain ⟨h1, h⟩ := He.ba h
  obtain ⟨h2, h⟩ := He.ba h
  obtain ⟨h3, h⟩ := He.ba h
  obtain ⟨h4, h⟩ := He.ba h
  obtain ⟨h5, h⟩ := He.ba h
  obtain ⟨h6, h⟩ := He.ba h
  obtain ⟨h7, h⟩ := He.ba h
  obtain ⟨h8, h9⟩ := He.ba h
  refine ⟨?_, oexB_ok h7, He.eqO_ok h8, of_decide_eq_true h9⟩
  unfold fnCl at e
  split at h1
  · rename_i oc od g osl ho
    rw [ho] at e
    obtain ⟨n1, n2, n3, n4, n5, n6, n7, n8, n9, n10, n11, n12, n13, n14, n15⟩ := g
    have e2 : (some (n1, n2, n3, n4, n5, n6, n7.map Prod.fst, n15) : FnCl) = some (("__init__" : Str), qual, defArgs st, FuncBody.stmts (defBody st), defScope st, mainGlobals, [("__class__" : Str)], builtinsNs) := e
    simp only [Option.some.injEq, Prod.mk.injEq] at e2
    obtain ⟨q1, q2, q3, q4, q5, q6, q7, q8⟩ := e2
    subst q1 q2 q3 q4 q5 q6 q8
    dsimp only at h1
    split at h1
    · rename_i _ _ cda y cell
      have hy : y = "__class__" := by
        simp only [List.map_cons, List.map_nil, List.cons.injEq, and_true] at q7
        exact q7
      subst hy
      obtain ⟨g0, g4⟩ := He.ba h1
      have g0 : n8 = .none := of_decide_eq_true g0
      subst g0
      obtain ⟨g1, g5⟩ := He.ba g4
      obtain ⟨g2, g3⟩ := He.ba g5
      refine ⟨cell, cda, n9, n10, n11, n14, n12, ⟨⟨_, _, _, ho⟩, rfl, ?_, ?_, h2, of_decide_eq_true h3, He.eqO_ok h4, of_decide_eq_true h5, He.eqO_ok h6, top⟩, g1⟩
      · split at g2
        · rename_i oc2 od2 vs sl2 hl
          split at g2
          · rename_i fl tf hv
            exact ⟨_, _, _, _, _, _, hl, hv, g2⟩
          · cases g2
        · cases g2
      · split at g3
        · rename_i oc2 od2 D sl2 hl
          have g3 := of_decide_eq_true g3
          subst g3
          exact ⟨_, _, _, hl⟩
        · cases g3
    · cases h1
  · cases h1
end Bm
set_option maxHeartbeats 0
namespace Bm
open PySem PySem.Spec PyProof.Rows L2
def top (i : Nat) : Stmt := PySem.Challenge.pw_bitmill_k10_sums_reckoned.main.body.getD i (.Pass ⟨0, 0, 0, 0⟩)
abbrev s_is_number : Stmt := top 14
abbrev s_words_of : Stmt := top 21
abbrev s_going_words : Stmt := top 22
abbrev s_is_reached : Stmt := top 23
abbrev s_only_word : Stmt := top 24
abbrev s_fields : Stmt := top 25
abbrev s_rows_of : Stmt := top 33
abbrev s_lowered : Stmt := top 34
abbrev s_word_and_rest : Stmt := top 35
abbrev s_parts_of : Stmt := top 36
abbrev s_is_name : Stmt := top 37
abbrev s_number_of : Stmt := top 38
abbrev s_sign_number : Stmt := top 39
abbrev s_figured : Stmt := top 40
abbrev s_is_told : Stmt := top 47
abbrev s_kinds_of : Stmt := top 48
abbrev s_is_form : Stmt := top 49
abbrev s_fits : Stmt := top 50
abbrev s_goal_name : Stmt := top 51
abbrev s_least_size : Stmt := top 52
abbrev s_exchanged_rows : Stmt := top 59
abbrev s_check_label : Stmt := top 60
abbrev s_rows_ahead_of_end : Stmt := top 61
abbrev s_parameters_of : Stmt := top 62
abbrev s_told_texts : Stmt := top 63
abbrev s_name_and_text : Stmt := top 64
abbrev s_exchanged : Stmt := top 65
abbrev s_exchanged_one : Stmt := top 66
abbrev s_starts_of : Stmt := top 68
abbrev s_widened : Stmt := top 69
abbrev s_sum_of : Stmt := top 75
abbrev s_pieces : Stmt := top 76
abbrev s_worth : Stmt := top 77
abbrev s_reckoned_on : Stmt := top 78
abbrev s_signed_sum : Stmt := top 79
abbrev s_assembled : Stmt := top 81
abbrev s_joined : Stmt := top 82
abbrev s_numbers_of_labels : Stmt := top 83
abbrev s_own_names : Stmt := top 84
abbrev s_sizes_of : Stmt := top 85
abbrev s_check_length : Stmt := top 86
abbrev s_row_words : Stmt := top 87
abbrev s_fill_words : Stmt := top 88
abbrev s_deed_words : Stmt := top 89
abbrev s_deed_parts : Stmt := top 90
abbrev s__law_start : Stmt := top 92
abbrev s__law_drawn : Stmt := top 93
abbrev s__law_same : Stmt := top 94
abbrev s__law_kind : Stmt := top 95
abbrev s__law_parsed : Stmt := top 96
abbrev s__law_is_name : Stmt := top 97
abbrev s__law_number_in : Stmt := top 98
abbrev s__law_pieces : Stmt := top 99
abbrev s__law_bits : Stmt := top 100
abbrev s__law_comes : Stmt := top 101
abbrev s__law_sum : Stmt := top 102
abbrev s__law_some_sum : Stmt := top 103
abbrev s__law_spoilt : Stmt := top 104
abbrev s_law : Stmt := top 105
abbrev s_Row____init__ : Stmt := inClass (top 32) 0
abbrev s_Macro____init__ : Stmt := inClass (top 57) 0
abbrev s_Exchange____init__ : Stmt := inClass (top 58) 0
abbrev s_Exchange__tell : Stmt := inClass (top 58) 1
abbrev s_Exchange__is_free : Stmt := inClass (top 58) 2
abbrev s_Exchange__put : Stmt := inClass (top 58) 3
abbrev s_Exchange__put_called : Stmt := inClass (top 58) 4
abbrev s_Exchange__put_one : Stmt := inClass (top 58) 5
def d_is_number : He.DefD := ⟨("is_number", none), "is_number", "is_number", defArgs s_is_number, defBody s_is_number, defScope s_is_number, [], []⟩
def d_words_of : He.DefD := ⟨("words_of", none), "words_of", "words_of", defArgs s_words_of, defBody s_words_of, defScope s_words_of, [], []⟩
def d_going_words : He.DefD := ⟨("going_words", none), "going_words", "going_words", defArgs s_going_words, defBody s_going_words, defScope s_going_words, [], []⟩
def d_is_reached : He.DefD := ⟨("is_reached", none), "is_reached", "is_reached", defArgs s_is_reached, defBody s_is_reached, defScope s_is_reached, [], []⟩
def d_only_word : He.DefD := ⟨("only_word", none), "only_word", "only_word", defArgs s_only_word, defBody s_only_word, defScope s_only_word, [], []⟩
def d_fields : He.DefD := ⟨("fields", none), "fields", "fields", defArgs s_fields, defBody s_fields, defScope s_fields, [.int 0], []⟩
def d_rows_of : He.DefD := ⟨("rows_of", none), "rows_of", "rows_of", defArgs s_rows_of, defBody s_rows_of, defScope s_rows_of, [], []⟩
def d_lowered : He.DefD := ⟨("lowered", none), "lowered", "lowered", defArgs s_lowered, defBody s_lowered, defScope s_lowered, [], []⟩
def d_word_and_rest : He.DefD := ⟨("word_and_rest", none), "word_and_rest", "word_and_rest", defArgs s_word_and_rest, defBody s_word_and_rest, defScope s_word_and_rest, [], []⟩
def d_parts_of : He.DefD := ⟨("parts_of", none), "parts_of", "parts_of", defArgs s_parts_of, defBody s_parts_of, defScope s_parts_of, [], []⟩
def d_is_name : He.DefD := ⟨("is_name", none), "is_name", "is_name", defArgs s_is_name, defBody s_is_name, defScope s_is_name, [], []⟩
def d_number_of : He.DefD := ⟨("number_of", none), "number_of", "number_of", defArgs s_number_of, defBody s_number_of, defScope s_number_of, [], []⟩
def d_sign_number : He.DefD := ⟨("sign_number", none), "sign_number", "sign_number", defArgs s_sign_number, defBody s_sign_number, defScope s_sign_number, [], []⟩
def d_figured : He.DefD := ⟨("figured", none), "figured", "figured", defArgs s_figured, defBody s_figured, defScope s_figured, [], []⟩
def d_is_told : He.DefD := ⟨("is_told", none), "is_told", "is_told", defArgs s_is_told, defBody s_is_told, defScope s_is_told, [], []⟩
def d_kinds_of : He.DefD := ⟨("kinds_of", none), "kinds_of", "kinds_of", defArgs s_kinds_of, defBody s_kinds_of, defScope s_kinds_of, [], []⟩
def d_is_form : He.DefD := ⟨("is_form", none), "is_form", "is_form", defArgs s_is_form, defBody s_is_form, defScope s_is_form, [], []⟩
def d_fits : He.DefD := ⟨("fits", none), "fits", "fits", defArgs s_fits, defBody s_fits, defScope s_fits, [], []⟩
def d_goal_name : He.DefD := ⟨("goal_name", none), "goal_name", "goal_name", defArgs s_goal_name, defBody s_goal_name, defScope s_goal_name, [], []⟩
def d_least_size : He.DefD := ⟨("least_size", none), "least_size", "least_size", defArgs s_least_size, defBody s_least_size, defScope s_least_size, [], []⟩
def d_exchanged_rows : He.DefD := ⟨("exchanged_rows", none), "exchanged_rows", "exchanged_rows", defArgs s_exchanged_rows, defBody s_exchanged_rows, defScope s_exchanged_rows, [], []⟩
def d_check_label : He.DefD := ⟨("check_label", none), "check_label", "check_label", defArgs s_check_label, defBody s_check_label, defScope s_check_label, [], []⟩
def d_rows_ahead_of_end : He.DefD := ⟨("rows_ahead_of_end", none), "rows_ahead_of_end", "rows_ahead_of_end", defArgs s_rows_ahead_of_end, defBody s_rows_ahead_of_end, defScope s_rows_ahead_of_end, [], []⟩
def d_parameters_of : He.DefD := ⟨("parameters_of", none), "parameters_of", "parameters_of", defArgs s_parameters_of, defBody s_parameters_of, defScope s_parameters_of, [], []⟩
def d_told_texts : He.DefD := ⟨("told_texts", none), "told_texts", "told_texts", defArgs s_told_texts, defBody s_told_texts, defScope s_told_texts, [], []⟩
def d_name_and_text : He.DefD := ⟨("name_and_text", none), "name_and_text", "name_and_text", defArgs s_name_and_text, defBody s_name_and_text, defScope s_name_and_text, [], []⟩
def d_exchanged : He.DefD := ⟨("exchanged", none), "exchanged", "exchanged", defArgs s_exchanged, defBody s_exchanged, defScope s_exchanged, [], []⟩
def d_exchanged_one : He.DefD := ⟨("exchanged_one", none), "exchanged_one", "exchanged_one", defArgs s_exchanged_one, defBody s_exchanged_one, defScope s_exchanged_one, [], []⟩
def d_starts_of : He.DefD := ⟨("starts_of", none), "starts_of", "starts_of", defArgs s_starts_of, defBody s_starts_of, defScope s_starts_of, [], []⟩
def d_widened : He.DefD := ⟨("widened", none), "widened", "widened", defArgs s_widened, defBody s_widened, defScope s_widened, [], []⟩
def d_sum_of : He.DefD := ⟨("sum_of", none), "sum_of", "sum_of", defArgs s_sum_of, defBody s_sum_of, defScope s_sum_of, [], []⟩
def d_pieces : He.DefD := ⟨("pieces", none), "pieces", "pieces", defArgs s_pieces, defBody s_pieces, defScope s_pieces, [], []⟩
def d_worth : He.DefD := ⟨("worth", none), "worth", "worth", defArgs s_worth, defBody s_worth, defScope s_worth, [], []⟩
def d_reckoned_on : He.DefD := ⟨("reckoned_on", none), "reckoned_on", "reckoned_on", defArgs s_reckoned_on, defBody s_reckoned_on, defScope s_reckoned_on, [], []⟩
def d_signed_sum : He.DefD := ⟨("signed_sum", none), "signed_sum", "signed_sum", defArgs s_signed_sum, defBody s_signed_sum, defScope s_signed_sum, [], []⟩
def d_assembled : He.DefD := ⟨("assembled", none), "assembled", "assembled", defArgs s_assembled, defBody s_assembled, defScope s_assembled, [], []⟩
def d_joined : He.DefD := ⟨("joined", none), "joined", "joined", defArgs s_joined, defBody s_joined, defScope s_joined, [], []⟩
def d_numbers_of_labels : He.DefD := ⟨("numbers_of_labels", none), "numbers_of_labels", "numbers_of_labels", defArgs s_numbers_of_labels, defBody s_numbers_of_labels, defScope s_numbers_of_labels, [], []⟩
def d_own_names : He.DefD := ⟨("own_names", none), "own_names", "own_names", defArgs s_own_names, defBody s_own_names, defScope s_own_names, [], []⟩
def d_sizes_of : He.DefD := ⟨("sizes_of", none), "sizes_of", "sizes_of", defArgs s_sizes_of, defBody s_sizes_of, defScope s_sizes_of, [], []⟩
def d_check_length : He.DefD := ⟨("check_length", none), "check_length", "check_length", defArgs s_check_length, defBody s_check_length, defScope s_check_length, [], []⟩
def d_row_words : He.DefD := ⟨("row_words", none), "row_words", "row_words", defArgs s_row_words, defBody s_row_words, defScope s_row_words, [], []⟩
def d_fill_words : He.DefD := ⟨("fill_words", none), "fill_words", "fill_words", defArgs s_fill_words, defBody s_fill_words, defScope s_fill_words, [], []⟩
def d_deed_words : He.DefD := ⟨("deed_words", none), "deed_words", "deed_words", defArgs s_deed_words, defBody s_deed_words, defScope s_deed_words, [], []⟩
def d_deed_parts : He.DefD := ⟨("deed_parts", none), "deed_parts", "deed_parts", defArgs s_deed_parts, defBody s_deed_parts, defScope s_deed_parts, [], []⟩
def d__law_start : He.DefD := ⟨("_law_start", none), "_law_start", "_law_start", defArgs s__law_start, defBody s__law_start, defScope s__law_start, [], []⟩
def d__law_drawn : He.DefD := ⟨("_law_drawn", none), "_law_drawn", "_law_drawn", defArgs s__law_drawn, defBody s__law_drawn, defScope s__law_drawn, [], []⟩
def d__law_same : He.DefD := ⟨("_law_same", none), "_law_same", "_law_same", defArgs s__law_same, defBody s__law_same, defScope s__law_same, [], []⟩
def d__law_kind : He.DefD := ⟨("_law_kind", none), "_law_kind", "_law_kind", defArgs s__law_kind, defBody s__law_kind, defScope s__law_kind, [], []⟩
def d__law_parsed : He.DefD := ⟨("_law_parsed", none), "_law_parsed", "_law_parsed", defArgs s__law_parsed, defBody s__law_parsed, defScope s__law_parsed, [], []⟩
def d__law_is_name : He.DefD := ⟨("_law_is_name", none), "_law_is_name", "_law_is_name", defArgs s__law_is_name, defBody s__law_is_name, defScope s__law_is_name, [], []⟩
def d__law_number_in : He.DefD := ⟨("_law_number_in", none), "_law_number_in", "_law_number_in", defArgs s__law_number_in, defBody s__law_number_in, defScope s__law_number_in, [], []⟩
def d__law_pieces : He.DefD := ⟨("_law_pieces", none), "_law_pieces", "_law_pieces", defArgs s__law_pieces, defBody s__law_pieces, defScope s__law_pieces, [], []⟩
def d__law_bits : He.DefD := ⟨("_law_bits", none), "_law_bits", "_law_bits", defArgs s__law_bits, defBody s__law_bits, defScope s__law_bits, [], []⟩
def d__law_comes : He.DefD := ⟨("_law_comes", none), "_law_comes", "_law_comes", defArgs s__law_comes, defBody s__law_comes, defScope s__law_comes, [], []⟩
def d__law_sum : He.DefD := ⟨("_law_sum", none), "_law_sum", "_law_sum", defArgs s__law_sum, defBody s__law_sum, defScope s__law_sum, [], []⟩
def d__law_some_sum : He.DefD := ⟨("_law_some_sum", none), "_law_some_sum", "_law_some_sum", defArgs s__law_some_sum, defBody s__law_some_sum, defScope s__law_some_sum, [], []⟩
def d__law_spoilt : He.DefD := ⟨("_law_spoilt", none), "_law_spoilt", "_law_spoilt", defArgs s__law_spoilt, defBody s__law_spoilt, defScope s__law_spoilt, [], []⟩
def d_law : He.DefD := ⟨("law", none), "law", "law", defArgs s_law, defBody s_law, defScope s_law, [], []⟩
def clsFn (st : Stmt) : Stmt := match st with
  | .ClassDef _ _ _ body _ _ _ _ _ _ _ => body.getD 0 (.Pass ⟨0, 0, 0, 0⟩)
  | _ => .Pass ⟨0, 0, 0, 0⟩
abbrev s_init_BadImage : Stmt := clsFn (top 7)
abbrev s_init_BadGiven : Stmt := clsFn (top 8)
abbrev s_init_BadList : Stmt := clsFn (top 9)
abbrev s_init_BadRow : Stmt := clsFn (top 10)
def d_Row____init__ : He.DefD := ⟨("Row", some "__init__"), "__init__", "Row.__init__", defArgs s_Row____init__, defBody s_Row____init__, defScope s_Row____init__, [], []⟩
def d_Macro____init__ : He.DefD := ⟨("Macro", some "__init__"), "__init__", "Macro.__init__", defArgs s_Macro____init__, defBody s_Macro____init__, defScope s_Macro____init__, [], []⟩
def d_Exchange____init__ : He.DefD := ⟨("Exchange", some "__init__"), "__init__", "Exchange.__init__", defArgs s_Exchange____init__, defBody s_Exchange____init__, defScope s_Exchange____init__, [], []⟩
def d_Exchange__tell : He.DefD := ⟨("Exchange", some "tell"), "tell", "Exchange.tell", defArgs s_Exchange__tell, defBody s_Exchange__tell, defScope s_Exchange__tell, [], []⟩
def d_Exchange__is_free : He.DefD := ⟨("Exchange", some "is_free"), "is_free", "Exchange.is_free", defArgs s_Exchange__is_free, defBody s_Exchange__is_free, defScope s_Exchange__is_free, [], []⟩
def d_Exchange__put : He.DefD := ⟨("Exchange", some "put"), "put", "Exchange.put", defArgs s_Exchange__put, defBody s_Exchange__put, defScope s_Exchange__put, [], []⟩
def d_Exchange__put_called : He.DefD := ⟨("Exchange", some "put_called"), "put_called", "Exchange.put_called", defArgs s_Exchange__put_called, defBody s_Exchange__put_called, defScope s_Exchange__put_called, [], []⟩
def d_Exchange__put_one : He.DefD := ⟨("Exchange", some "put_one"), "put_one", "Exchange.put_one", defArgs s_Exchange__put_one, defBody s_Exchange__put_one, defScope s_Exchange__put_one, [], []⟩
def fnL : List He.DefD := [d_is_number, d_words_of, d_going_words, d_is_reached, d_only_word, d_fields, d_rows_of, d_lowered, d_word_and_rest, d_parts_of, d_is_name, d_number_of, d_sign_number, d_figured, d_is_told, d_kinds_of, d_is_form, d_fits, d_goal_name, d_least_size, d_exchanged_rows, d_check_label, d_rows_ahead_of_end, d_parameters_of, d_told_texts, d_name_and_text, d_exchanged, d_exchanged_one, d_starts_of, d_widened, d_sum_of, d_pieces, d_worth, d_reckoned_on, d_signed_sum, d_assembled, d_joined, d_numbers_of_labels, d_own_names, d_sizes_of, d_check_length, d_row_words, d_fill_words, d_deed_words, d_deed_parts, d__law_start, d__law_drawn, d__law_same, d__law_kind, d__law_parsed, d__law_is_name, d__law_number_in, d__law_pieces, d__law_bits, d__law_comes, d__law_sum, d__law_some_sum, d__law_spoilt, d_law, d_Row____init__, d_Macro____init__, d_Exchange____init__, d_Exchange__tell, d_Exchange__is_free, d_Exchange__put, d_Exchange__put_called, d_Exchange__put_one]
def faL : List He.Fa := [.glo "MillError", .glo "BadDeed", .glo "BadReach", .glo "NoDeed", .glo "BadCount", .glo "NoMend", .glo "BadImage", .glo "BadGiven", .glo "BadList", .glo "BadRow", .glo "is_number", .glo "SINGLES", .glo "SUMS", .glo "TIMES", .glo "PARTS", .glo "SPANS", .glo "words_of", .glo "going_words", .glo "is_reached", .glo "only_word", .glo "fields", .glo "REGISTERS", .glo "Row", .glo "rows_of", .glo "lowered", .glo "word_and_rest", .glo "parts_of", .glo "is_name", .glo "number_of", .glo "sign_number", .glo "figured", .glo "OWN_KINDS", .glo "SHORTER", .glo "JUMPS", .glo "CALLS", .glo "is_told", .glo "kinds_of", .glo "is_form", .glo "fits", .glo "goal_name", .glo "least_size", .glo "Macro", .glo "Exchange", .glo "exchanged_rows", .glo "check_label", .glo "rows_ahead_of_end", .glo "parameters_of", .glo "told_texts", .glo "name_and_text", .glo "exchanged", .glo "exchanged_one", .glo "starts_of", .glo "widened", .glo "OWN_SPANS", .glo "sum_of", .glo "pieces", .glo "worth", .glo "reckoned_on", .glo "signed_sum", .glo "assembled", .glo "joined", .glo "numbers_of_labels", .glo "own_names", .glo "sizes_of", .glo "check_length", .glo "row_words", .glo "fill_words", .glo "deed_words", .glo "deed_parts", .glo "_law_start", .glo "_law_drawn", .glo "_law_same", .glo "_law_kind", .glo "_law_parsed", .glo "_law_is_name", .glo "_law_number_in", .glo "_law_pieces", .glo "_law_bits", .glo "_law_comes", .glo "_law_sum", .glo "_law_some_sum", .glo "_law_spoilt", .glo "law", .int "WORD_MOST" 65535, .int "IMAGE_MOST" 200, .int "NAME_MOST" 8, .int "ROOM_MOST" 50, .int "ROWS_MOST" 300, .int "PARAMETERS_MOST" 4, .int "WITHIN_MOST" 5, .int "TOTAL_MOST" 1000000000, .int "OFTEN_MOST" 16, .str "LETTERS" "abcdefghijklmnopqrstuvwxyz", .str "FIGURES" "0123456789", .str "WORD_SIGNS" "abcdefghijklmnopqrstuvwxyzABCDEFGHIJKLMNOPQRSTUVWXYZ0123456789.", .str "SIGNS" "+-*&|^<>", .free "ValueError", .free "all", .free "bool", .free "dict", .free "enumerate", .free "int", .free "isinstance", .free "len", .free "list", .free "max", .free "min", .free "ord", .free "range", .free "sorted", .free "str", .free "super", .free "tuple", .free "zip", .exc "BadDeed", .exc "BadReach", .exc "NoDeed", .exc "BadCount", .exc "NoMend", .noat "BadImage" "number", .noat "BadGiven" "number", .noat "BadList" "number", .noat "BadRow" "row", .noat "BadRow" "why", .cls "Exchange", .noat "Exchange" "number", .noat "Exchange" "label", .noat "Exchange" "word", .noat "Exchange" "texts", .noat "Exchange" "parts", .noat "Exchange" "rest", .noat "Exchange" "parameters", .noat "Exchange" "rows", .noat "Exchange" "macros", .noat "Exchange" "calls", .meth "Exchange" "tell", .meth "Exchange" "is_free", .meth "Exchange" "put", .meth "Exchange" "put_called", .meth "Exchange" "put_one", .mkr "Exchange", .cls "Macro", .noat "Macro" "number", .noat "Macro" "label", .noat "Macro" "word", .noat "Macro" "texts", .noat "Macro" "parts", .noat "Macro" "rest", .noat "Macro" "parameters", .noat "Macro" "rows", .noat "Macro" "macros", .noat "Macro" "calls", .mkr "Macro", .cls "Row", .noat "Row" "number", .noat "Row" "label", .noat "Row" "word", .noat "Row" "texts", .noat "Row" "parts", .noat "Row" "rest", .noat "Row" "parameters", .noat "Row" "rows", .noat "Row" "macros", .noat "Row" "calls", .mkr "Row"]
def tsL : List He.Tab := [(fun K => He.ga K "PARTS", ["halt", "rest", "back", "say", "ask", "push", "pop", "add", "less", "and", "or", "xor", "left", "right", "turn", "plus", "set", "high", "load", "store", "jump", "call"]), (fun K => He.ga K "SPANS", ["reg", "signed six", "six", "seven", "nine", "goal"]), (fun K => He.ga K "OWN_KINDS", ["copy", "fill", "jump", "jump.near", "jump.far", "call", "call.near", "call.far", ".room", ".let"]), (fun K => He.ga K "OWN_SPANS", ["word", "short", "any"])]
abbrev R : PySem.W.OpenRow := PySem.W.OpenLaw.row PySem.Challenge.rw_bitmill_k10_sums_reckoned
def loose0 : List PySem.Str := ["MillError", "BadDeed", "BadReach", "NoDeed", "BadCount", "NoMend", "BadImage", "BadGiven", "BadList", "BadRow", "WORD_MOST", "IMAGE_MOST", "is_number", "SINGLES", "SUMS", "TIMES", "PARTS", "SPANS", "words_of", "going_words", "is_reached", "only_word", "fields", "LETTERS", "FIGURES", "WORD_SIGNS", "REGISTERS", "NAME_MOST", "Row", "rows_of"]
def loose1 : List PySem.Str := ["lowered", "word_and_rest", "parts_of", "is_name", "number_of", "sign_number", "figured", "OWN_KINDS", "SHORTER", "JUMPS", "CALLS", "ROOM_MOST", "is_told", "kinds_of", "is_form", "fits", "goal_name", "least_size", "ROWS_MOST", "PARAMETERS_MOST", "WITHIN_MOST", "Macro", "Exchange", "exchanged_rows", "check_label", "rows_ahead_of_end", "parameters_of", "told_texts", "name_and_text", "exchanged"]
def loose2 : List PySem.Str := ["exchanged_one", "starts_of", "widened", "SIGNS", "TOTAL_MOST", "OFTEN_MOST", "OWN_SPANS", "sum_of", "pieces", "worth", "reckoned_on", "signed_sum", "assembled", "joined", "numbers_of_labels", "own_names", "sizes_of", "check_length", "row_words", "fill_words", "deed_words", "deed_parts", "_law_start", "_law_drawn", "_law_same", "_law_kind", "_law_parsed", "_law_is_name", "_law_number_in", "_law_pieces"]
def loose3 : List PySem.Str := ["_law_bits", "_law_comes", "_law_sum", "_law_some_sum", "_law_spoilt"]
def looseL : List PySem.Str := loose0 ++ loose1 ++ loose2 ++ loose3
def ciL : List DefI := [⟨"BadImage", "BadImage.__init__", s_init_BadImage⟩, ⟨"BadGiven", "BadGiven.__init__", s_init_BadGiven⟩, ⟨"BadList", "BadList.__init__", s_init_BadList⟩, ⟨"BadRow", "BadRow.__init__", s_init_BadRow⟩]
def LAWI : Nat := 105
end Bm
set_option maxHeartbeats 400000
namespace Bm
open PySem L2
/-! the deeds -/
def SG : List Str := ["halt", "rest", "back", "say", "ask", "push", "pop"]
def SM : List Str := ["add", "less", "and", "or", "xor", "left", "right", "turn"]
def TM : List Str := ["always", "zero", "some", "carry", "clear", "minus", "over"]
abbrev nm (l : List Str) (k : Nat) : Str := l.getD k ""
inductive De where
  | sgl (k : Nat) | reg (k : Nat) (a : Int) | sum (k : Nat) (d a b : Int) | plus (d a n : Int) | set (d n : Int) | high (d n : Int) | load (d a n : Int) | store (d a n : Int)
  | jump (k : Nat) (g : Int) (far : Bool) | call (g : Int) (far : Bool)
def r3 (a : Int) : Prop := 0 ≤ a ∧ a ≤ 7
def De.ok : De → Prop
  | .sgl k => k < 3
  | .reg k a => 3 ≤ k ∧ k < 7 ∧ r3 a
  | .sum k d a b => k < 8 ∧ r3 d ∧ r3 a ∧ r3 b
  | .plus d a n => r3 d ∧ r3 a ∧ -32 ≤ n ∧ n ≤ 31
  | .set d n => r3 d ∧ 0 ≤ n ∧ n ≤ 511
  | .high d n => r3 d ∧ 0 ≤ n ∧ n ≤ 127
  | .load d a n => r3 d ∧ r3 a ∧ 0 ≤ n ∧ n ≤ 63
  | .store d a n => r3 d ∧ r3 a ∧ 0 ≤ n ∧ n ≤ 63
  | .jump k g _ => k < 7 ∧ 0 ≤ g ∧ g ≤ 65535
  | .call g _ => 0 ≤ g ∧ g ≤ 65535
def De.vals : De → List V
  | .sgl k => [.str (nm SG k)]
  | .reg k a => [.str (nm SG k), .int a]
  | .sum k d a b => [.str (nm SM k), .int d, .int a, .int b]
  | .plus d a n => [.str "plus", .int d, .int a, .int n]
  | .set d n => [.str "set", .int d, .int n]
  | .high d n => [.str "high", .int d, .int n]
  | .load d a n => [.str "load", .int d, .int a, .int n]
  | .store d a n => [.str "store", .int d, .int a, .int n]
  | .jump k g f => [.str "jump", .str (nm TM k), .int g, .bl f]
  | .call g f => [.str "call", .int g, .bl f]
/-- the word of a deed that goes nowhere -/
def De.word : De → Int
  | .sgl k => k * 512
  | .reg k a => k * 512 + a * 64
  | .sum k d a b => 4096 + d * 512 + a * 64 + b * 8 + k
  | .plus d a n => 8192 + d * 512 + a * 64 + n % 64
  | .set d n => 12288 + d * 512 + n
  | .high d n => 16384 + d * 512 + n
  | .load d a n => 20480 + d * 512 + a * 64 + n
  | .store d a n => 24576 + d * 512 + a * 64 + n
  | _ => 0
def De.goes : De → Bool
  | .jump _ _ _ => true
  | .call _ _ => true
  | _ => false
def near (g p : Int) : Prop := -16 ≤ g - p - 1 ∧ g - p - 1 ≤ 15
instance (g p : Int) : Decidable (near g p) := inferInstanceAs (Decidable (_ ∧ _))
def De.reached (p : Int) : De → Prop
  | .jump _ g false => near g p
  | .call g false => near g p
  | _ => True
def De.words (p : Int) : De → List Int
  | .jump k g true => [32768 + k * 512, g]
  | .jump k g false => [28672 + k * 512 + (g - p - 1) % 32]
  | .call g true => [40960, g]
  | .call g false => [36864 + (g - p - 1) % 32]
  | d => [d.word]
theorem words_word {d : De} (h : d.goes = false) (p : Int) : d.words p = [d.word] := by
  cases d <;> first | rfl | cases h
/-! bits side by side -/
theorem or_side {x y : Int} (k : Nat) (hx : 0 ≤ x) (h0 : 0 ≤ y) (h1 : y < 2 ^ k) : Builtin.bitOr (x * 2 ^ k) y = x * 2 ^ k + y := by
  rw [Bits.bitOr_join' h0 h1 hx, Int.add_comm]
theorem or6 {x y : Int} (hx : 0 ≤ x) (h0 : 0 ≤ y) (h1 : y < 64) : Builtin.bitOr (x * 64) y = x * 64 + y := or_side 6 hx h0 h1
theorem or9 {x y : Int} (hx : 0 ≤ x) (h0 : 0 ≤ y) (h1 : y < 512) : Builtin.bitOr (x * 512) y = x * 512 + y := or_side 9 hx h0 h1
theorem or3' {x y : Int} (hx : 0 ≤ x) (h0 : 0 ≤ y) (h1 : y < 8) : Builtin.bitOr (x * 8) y = x * 8 + y := or_side 3 hx h0 h1
/-! the names -/
theorem sg_ne : ∀ k, k < 7 → nm SG k ≠ "set" ∧ nm SG k ≠ "high" ∧ nm SG k ≠ "jump" ∧ nm SG k ≠ "call" := by decide +kernel
theorem sm_ne : ∀ k, k < 8 → nm SM k ≠ "plus" ∧ nm SM k ≠ "load" ∧ nm SM k ≠ "store" ∧ nm SM k ≠ "jump" ∧ nm SM k ≠ "call" := by decide +kernel
theorem sg_at : ∀ k, k < 7 → SG[k]? = some (nm SG k) ∧ ∀ m, m < k → SG[m]? ≠ some (nm SG k) := by decide +kernel
theorem sm_at : ∀ k, k < 8 → SM[k]? = some (nm SM k) ∧ ∀ m, m < k → SM[m]? ≠ some (nm SM k) := by decide +kernel
theorem tm_at : ∀ k, k < 7 → TM[k]? = some (nm TM k) ∧ ∀ m, m < k → TM[m]? ≠ some (nm TM k) := by decide +kernel
end Bm
set_option maxHeartbeats 400000
namespace Bm
open PySem PySem.Spec PyProof.Rows L2
/-! a tuple that the top has written, at an address -/
def tupAt (K : PySem.W.Frag) (a : Addr) (vs : List He.Dv) : Bool := match K.lookup a with
  | some ⟨.type c, none, .seq its _, _⟩ => decide (c = "tuple") && (decide (its.size ≤ sizeLine) && He.relAll (vs.map (He.Dv.v K)) its.toList)
  | _ => false
theorem tupAt_ok {K : PySem.W.Frag} {a : Addr} {vs : List He.Dv} (h : tupAt K a vs = true) (H : Hp) : SqT K H a (vs.map (He.Dv.v K)) ∧ tyV K "tuple" (.ref a) H := by
  unfold tupAt at h
  cases q : K.lookup a with
  | none => rw [q] at h; cases h
  | some o =>
    obtain ⟨oc, od, dt, osl⟩ := o
    rw [q] at h
    cases oc with
    | type c =>
      cases od with
      | some z => cases dt <;> cases h
      | none =>
        cases dt with
        | seq its n =>
          obtain ⟨h1, h2⟩ := He.ba (show (decide (c = "tuple") && (decide (its.size ≤ sizeLine) && He.relAll (vs.map (He.Dv.v K)) its.toList)) = true from h)
          obtain ⟨h3, h4⟩ := He.ba h2
          exact ⟨.inr ⟨_, its, n, q, congrArg Value.type (of_decide_eq_true h1), rfl, of_decide_eq_true h3, He.relAll_ok h4⟩, .inr (.inl ⟨rfl, _, q, congrArg Value.type (of_decide_eq_true h1), rfl⟩)⟩
        | _ => cases h
    | _ => cases od <;> cases dt <;> cases h
/-! a table of the top from texts to tuples -/
def rowB (K : PySem.W.Frag) (d : Addr) (r : Str × List He.Dv) : Bool := match PySem.W.nsIn K d r.1 with
  | some (some (.ref t)) => tupAt K t r.2
  | _ => false
theorem rowB_ok {K : PySem.W.Frag} {d : Addr} {r : Str × List He.Dv} (h : rowB K d r = true) : ∃ t, PySem.W.nsIn K d r.1 = some (some (.ref t)) ∧ ∀ H, SqT K H t (r.2.map (He.Dv.v K)) := by
  unfold rowB at h
  cases q : PySem.W.nsIn K d r.1 with
  | none => rw [q] at h; cases h
  | some o =>
    rw [q] at h
    cases o with
    | none => cases h
    | some v =>
      cases v with
      | ref t => exact ⟨t, rfl, fun H => (tupAt_ok h H).1⟩
      | _ => cases h
def noB (K : PySem.W.Frag) (d : Addr) (x : Str) : Bool := He.eqO (PySem.W.nsIn K d x) (some none)
def dStr (l : List Str) : List He.Dv := l.map He.Dv.str
theorem dStr_v {K : PySem.W.Frag} (l : List Str) : (dStr l).map (He.Dv.v K) = l.map V.str := by
  unfold dStr
  rw [List.map_map]
  rfl
def PT : List (Str × List Str) := [("halt", []), ("rest", []), ("back", []), ("say", ["reg"]), ("ask", ["reg"]), ("push", ["reg"]), ("pop", ["reg"]),
  ("add", ["reg", "reg", "reg"]), ("less", ["reg", "reg", "reg"]), ("and", ["reg", "reg", "reg"]), ("or", ["reg", "reg", "reg"]), ("xor", ["reg", "reg", "reg"]), ("left", ["reg", "reg", "reg"]), ("right", ["reg", "reg", "reg"]), ("turn", ["reg", "reg", "reg"]),
  ("plus", ["reg", "reg", "signed six"]), ("set", ["reg", "nine"]), ("high", ["reg", "seven"]), ("load", ["reg", "reg", "six"]), ("store", ["reg", "reg", "six"]), ("jump", ["when", "goal", "far"]), ("call", ["goal", "far"])]
def ST : List (Str × Int × Int) := [("reg", 0, 7), ("signed six", -32, 31), ("six", 0, 63), ("seven", 0, 127), ("nine", 0, 511), ("goal", 0, 65535)]
/-- what the deeds' module has written -/
def conB (odd : List Str) (K : PySem.W.Frag) : Bool :=
  tupAt K (He.ga K "SINGLES") (dStr SG) && (tupAt K (He.ga K "SUMS") (dStr SM) && (tupAt K (He.ga K "TIMES") (dStr TM) &&
    ((PT.all fun r => rowB K (He.ga K "PARTS") (r.1, dStr r.2)) && ((ST.all fun r => rowB K (He.ga K "SPANS") (r.1, [.int r.2.1, .int r.2.2])) && odd.all fun x => noB K (He.ga K "PARTS") x))))
structure Con (w : World) (K : PySem.W.Frag) (mg : Str → Option Value) (odd : List Str) : Prop where
  g_SINGLES : mg "SINGLES" = some (.ref (He.ga K "SINGLES"))
  g_SUMS : mg "SUMS" = some (.ref (He.ga K "SUMS"))
  g_TIMES : mg "TIMES" = some (.ref (He.ga K "TIMES"))
  g_PARTS : mg "PARTS" = some (.ref (He.ga K "PARTS"))
  g_SPANS : mg "SPANS" = some (.ref (He.ga K "SPANS"))
  sg : ∀ H, SqT K H (He.ga K "SINGLES") (SG.map V.str) ∧ tyV K "tuple" (.ref (He.ga K "SINGLES")) H
  sm : ∀ H, SqT K H (He.ga K "SUMS") (SM.map V.str) ∧ tyV K "tuple" (.ref (He.ga K "SUMS")) H
  tm : ∀ H, SqT K H (He.ga K "TIMES") (TM.map V.str) ∧ tyV K "tuple" (.ref (He.ga K "TIMES")) H
  parts : ∃ es n, KDict K w (He.ga K "PARTS") es n
  spans : ∃ es n, KDict K w (He.ga K "SPANS") es n
  part : ∀ r ∈ PT, ∃ t, PySem.W.nsIn K (He.ga K "PARTS") r.1 = some (some (.ref t)) ∧ ∀ H, SqT K H t (r.2.map V.str)
  span : ∀ r ∈ ST, ∃ t, PySem.W.nsIn K (He.ga K "SPANS") r.1 = some (some (.ref t)) ∧ ∀ H, SqT K H t [.int r.2.1, .int r.2.2]
  odd : ∀ x ∈ odd, PySem.W.nsIn K (He.ga K "PARTS") x = some none
theorem con_of {w : World} {K : PySem.W.Frag} {mg : Str → Option Value} {odd : List Str} (h : conB odd K = true) (g1 : mg "SINGLES" = some (.ref (He.ga K "SINGLES"))) (g2 : mg "SUMS" = some (.ref (He.ga K "SUMS"))) (g3 : mg "TIMES" = some (.ref (He.ga K "TIMES")))
    (g4 : mg "PARTS" = some (.ref (He.ga K "PARTS"))) (g5 : mg "SPANS" = some (.ref (He.ga K "SPANS"))) (p : ∃ es n, KDict K w (He.ga K "PARTS") es n) (s : ∃ es n, KDict K w (He.ga K "SPANS") es n) : Con w K mg odd := by
  obtain ⟨h1, h⟩ := He.ba h
  obtain ⟨h2, h⟩ := He.ba h
  obtain ⟨h3, h⟩ := He.ba h
  obtain ⟨h4, h⟩ := He.ba h
  obtain ⟨h5, h6⟩ := He.ba h
  refine ⟨g1, g2, g3, g4, g5, fun H => ?_, fun H => ?_, fun H => ?_, p, s, fun r hr => ?_, fun r hr => ?_, fun x hx => ?_⟩
  · rw [← dStr_v (K := K)]
    exact tupAt_ok h1 H
  · rw [← dStr_v (K := K)]
    exact tupAt_ok h2 H
  · rw [← dStr_v (K := K)]
    exact tupAt_ok h3 H
  · obtain ⟨t, e, q⟩ := rowB_ok (List.all_eq_true.mp h4 r hr)
    refine ⟨t, e, fun H => ?_⟩
    rw [← dStr_v (K := K)]
    exact q H
  · obtain ⟨t, e, q⟩ := rowB_ok (List.all_eq_true.mp h5 r hr)
    exact ⟨t, e, fun H => q H⟩
  · exact He.eqO_ok (List.all_eq_true.mp h6 x hx)
end Bm
set_option maxHeartbeats 400000
namespace Bm
open PySem PySem.Spec PyProof.Rows L2
/-! what a pattern gives -/
def PEv (t : TPt) (v : V) (H : Hp) (r : Option (List (Nat × V))) : Prop := ∀ k : PK, k r H → t v H k
def PsEv (t : List V → Hp → PK → Prop) (vs : List V) (H : Hp) (r : Option (List (Nat × V))) : Prop := ∀ k : PK, k r H → t vs H k
section
variable {K : PySem.W.Frag} {H : Hp} {v : V} {t : TPt} {u : List V → Hp → PK → Prop} {vs : List V} {a : Addr} {n : Nat} {D : Ends} {σ : L2.St} {b : TS} {cs : TCs}
theorem pev_yes {c : V} (h : scal c c = true) : PEv (tPv c) c H (some []) := fun k q => ⟨h, by rw [if_pos rfl]; exact q⟩
theorem pev_no {c : V} (h : scal v c = true) (hn : v ≠ c) : PEv (tPv c) v H none := fun k q => ⟨h, by rw [if_neg hn]; exact q⟩
theorem pev_str {x c : Str} (hn : x ≠ c) : PEv (tPv (.str c)) (.str x) H none := pev_no rfl fun z => hn (V.str.inj z)
theorem pev_name {i : Nat} : PEv (tPn i) v H (some [(i, v)]) := fun k q => q
theorem pev_wild : PEv tPw v H (some []) := fun k q => q
theorem psev_nil : PsEv tPnil [] H (some []) := fun k q => ⟨rfl, q⟩
theorem psev_cons {x y : List (Nat × V)} (h1 : PEv t v H (some x)) (h2 : PsEv u vs H (some y)) : PsEv (tPcons t u) (v :: vs) H (some (x ++ y)) := fun k q => ⟨v, vs, rfl, h1 _ (h2 _ q)⟩
theorem psev_no (h1 : PEv t v H none) : PsEv (tPcons t u) (v :: vs) H none := fun k q => ⟨v, vs, rfl, h1 _ q⟩
theorem psev_skip {x : List (Nat × V)} (h1 : PEv t v H (some x)) (h2 : PsEv u vs H none) : PsEv (tPcons t u) (v :: vs) H none := fun k q => ⟨v, vs, rfl, h1 _ (h2 _ q)⟩
theorem pev_seq {r : Option (List (Nat × V))} (hs : SqT K H a vs) (hl : vs.length = n) (h : PsEv u vs H r) : PEv (tPseq K n u) (.ref a) H r := fun k q => ⟨a, vs, rfl, hs, by rw [if_pos hl]; exact h k q⟩
theorem pev_len (hs : SqT K H a vs) (hl : vs.length ≠ n) : PEv (tPseq K n u) (.ref a) H none := fun k q => ⟨a, vs, rfl, hs, by rw [if_neg hl]; exact q⟩
theorem cs_yes {x : List (Nat × V)} (h : PEv t v H (some x)) (q : b D (setAll x σ) H) : tCs t b cs v D σ H := h _ q
theorem cs_no (h : PEv t v H none) (q : cs v D σ H) : tCs t b cs v D σ H := h _ q
theorem pev_first {r : Option (List (Nat × V))} {x : List (Nat × V)} (h : PEv t v H (some x)) (t2 : TPt) : PEv (tPfirst t t2) v H (some x) := fun k q => h _ q
theorem pev_next {t2 : TPt} {r : Option (List (Nat × V))} (h : PEv t v H none) (h2 : PEv t2 v H r) : PEv (tPfirst t t2) v H r := fun k q => h _ (h2 k q)
theorem pev_or {x : List (Nat × V)} (h : PEv t v H (some x)) : PEv (tPor t) v H (some []) := fun k q => h _ q
theorem pev_orN (h : PEv t v H none) : PEv (tPor t) v H none := fun k q => h _ q
end
end Bm
set_option maxHeartbeats 400000
namespace Bm
open PySem PySem.Spec PyProof.Rows L2
theorem Same.mut {H H' : Hp} {p : Addr} {o : HO} (e : Same H H') (h : H p = none) : Same H (upd H' p o) := fun a u ha => by
  rw [upd_ne (ne_of_none ha h)]
  exact e a u ha
theorem walk_zipT {K : PySem.W.Frag} {a b : Addr} {xs ys : List V} {n : Nat} (hn : n = min xs.length ys.length) : Walk (RZ.ItzT K a b) n (fun H => SqT K H a xs ∧ SqT K H b ys) (YPair (fun i => xs[i]?) (fun i => ys[i]?)) := by
  subst hn
  constructor
  · intro n _ ln g
    exact ⟨xs, ys, xs[n]'(by omega), ys[n]'(by omega), g.1, g.2, List.getElem?_eq_getElem (by omega), List.getElem?_eq_getElem (by omega)⟩
  · exact fun _ g => ⟨xs, ys, g.1, g.2, by omega⟩
  · rintro n G v G2 _ g ⟨T, p, r, e1, e2, e3, a1, a2⟩
    exact ⟨T, p, r, e1, e2, e3, a1 xs g.1, a2 ys g.2⟩
/-! in, of a tuple of any data -/
def rInT (K : PySem.W.Frag) : R2 := fun x y H Q => ∃ d ds, Dp K H x d ∧ Dp K H y (.tuple ds) ∧ SeqAt.shaped d = true ∧ SeqAt.shaped (.tuple ds) = true ∧ Q (.bl (ds.any fun z => PyData.eqv z d)) H
theorem op_inT {X : Cx} (hu : X.A.units + 65 < cLine) : OpR X (compareOp .In) (rInT X.K) := by
  intro pn s0 σ G a b va vb Q J ra rb ⟨d, ds, g1, g2, sh1, sh2, q⟩
  have w1 := Dp.reads J d a va g1 ra
  have w2 := Dp.reads J (.tuple ds) b vb g2 rb
  exact SeqAt.in_tuple_reads w2.choose_spec w1.choose_spec (SeqAt.canLay_of_shaped sh2) (SeqAt.canLay_of_shaped sh1) (room_in_shaped sh1 hu) ⟨.bl _, G, J, rfl, q⟩
/-- in: flat items, or any data in a tuple -/
def rIn2 (K : PySem.W.Frag) : R2 := fun x y H Q => rIn K false x y H Q ∨ rInT K x y H Q
theorem op_in2 {X : Cx} (hu : X.A.units + 65 < cLine) : OpR X (compareOp .In) (rIn2 X.K) := by
  intro pn s0 σ G a b va vb Q J ra rb w
  exact w.elim (fun w => op_in_seq pn s0 σ G a b va vb Q J ra rb w) (fun w => op_inT hu pn s0 σ G a b va vb Q J ra rb w)
theorem hu65 {A : Around} {k : Nat} (hr : Room k A) : A.units + 65 < cLine := by
  have := hr.un
  omega
/-! a value's kind -/
inductive Knd (K : PySem.W.Frag) (H : Hp) : V → String → Prop
  | int (i : Int) : Knd K H (.int i) "int"
  | bl (b : Bool) : Knd K H (.bl b) "bool"
  | str (x : Str) : Knd K H (.str x) "str"
  | non : Knd K H .non "NoneType"
  | tup {a : Addr} {xs : List V} (h : SqT K H a xs) : Knd K H (.ref a) "tuple"
  | lst {a : Addr} {xs : List V} (h : SqL K H a xs) : Knd K H (.ref a) "list"
theorem Knd.ty {K : PySem.W.Frag} {H : Hp} {v : V} {t : String} (h : Knd K H v t) : TyX K H v (.type t) := by
  cases h with
  | int i => exact .base (.int i)
  | bl b => exact .base (.bl b)
  | str x => exact .base (.str x)
  | non => exact .base .non
  | tup h =>
    rcases h with (h | ⟨o, h⟩) | ⟨o, its, n, h1, h2, _⟩
    · exact .base (.tup h)
    · exact .fTuple h
    · exact .kTuple h1 h2
  | lst h =>
    rcases h with (h | ⟨o, h⟩) | ⟨o, its, n, h1, h2, _⟩
    · exact .base (.lst h)
    · exact .base (.frz h)
    · exact .kList h1 h2
/-- isinstance(x, t) -/
theorem isi {K : PySem.W.Frag} {H : Hp} {v : V} {t c : String} {b : Bool} {Q : VK} (h : Knd K H v t) (hk : kitB t c = some b) (q : Q (.bl b) H) : rIsi K [v, .ty c] H Q :=
  ⟨_, _, _, _, _, rfl, .ty c, h.ty, kit_ty hk, q⟩
end Bm
namespace Bm
open PySem PySem.Spec PyProof.Rows L2
/-! slices -/
theorem cut_tail (x : V) (r : List V) : cutV (x :: r) (some 1) none = r := by
  have e : HT.sIx (x :: r).length 0 (some ((1 : Nat) : Int)) = 1 := by
    rw [HT.sIx_nat, List.length_cons]
    omega
  have e1 : HT.sIx (x :: r).length 0 (some 1) = 1 := e
  unfold cutV
  rw [e1, HT.sIx_none, List.length_cons]
  show (r.take (r.length + 1 - 1)) = r
  rw [Nat.add_sub_cancel, List.take_length]
theorem not_whole_tail (x : V) (r : List V) : ¬ (HT.sIx (x :: r).length 0 (some 1) = 0 ∧ HT.sIx (x :: r).length (x :: r).length none = (x :: r).length) := by
  have e : HT.sIx (x :: r).length 0 (some ((1 : Nat) : Int)) = 1 := by
    rw [HT.sIx_nat, List.length_cons]
    omega
  intro z
  have e1 : HT.sIx (x :: r).length 0 (some 1) = 1 := e
  rw [e1] at z
  cases z.1
theorem at0 {x : V} {r : List V} : atI (x :: r) 0 = some x := atI_nat (j := 0) rfl
theorem take_succ' {α : Type} {l : List α} {i : Nat} {x : α} (h : l[i]? = some x) : l.take (i + 1) = l.take i ++ [x] := by
  rw [List.take_succ, h]
  rfl
end Bm
set_option maxHeartbeats 800000
/-! a tuple and a list, side by side -/
namespace Bm
open PySem PySem.Spec PyProof.Rows L2
def ItM (K : PySem.W.Frag) (l r : Addr) : It :=
  ⟨fun n H => ∃ (ls rs : List V) (p q : V), SqT K H l ls ∧ SqL K H r rs ∧ ls[n]? = some p ∧ rs[n]? = some q,
    fun n H v H2 => ∃ T p q, v = .ref T ∧ H T = none ∧ H2 = upd H T (.tup [p, q]) ∧ (∀ ls, SqT K H l ls → ls[n]? = some p) ∧ ∀ rs, SqL K H r rs → rs[n]? = some q,
    fun n H => ∃ ls rs : List V, SqT K H l ls ∧ SqL K H r rs ∧ n ≤ ls.length ∧ n ≤ rs.length ∧ (n = ls.length ∨ n = rs.length)⟩
theorem sep_of {z TI TO j1 j2 l r : Addr} (Z : ZipApart z TI TO j1 j2 l r) : ZipSep2 z TI TO j1 j2 [j1, l] [j2, r] where
  TIz := Z.TIz
  TOz := Z.TOz
  TITO := Z.TITO
  TIi1 := Z.TIi1
  mem1 := List.mem_cons_self ..
  zf1 := fun w => by rcases List.mem_cons.mp w with e | w; exact Z.i1z e.symm; exact Z.l1z (List.mem_singleton.mp w).symm
  Tf1 := fun w => by rcases List.mem_cons.mp w with e | w; exact Z.TOi1 e; exact Z.l1TO (List.mem_singleton.mp w).symm
  TIi2 := Z.TIi2
  mem2 := List.mem_cons_self ..
  zf2 := fun w => by rcases List.mem_cons.mp w with e | w; exact Z.i2z e.symm; exact Z.l2z (List.mem_singleton.mp w).symm
  Tf2 := fun w => by rcases List.mem_cons.mp w with e | w; exact Z.TOi2 e; exact Z.l2TO (List.mem_singleton.mp w).symm
  sep1_2 := fun w => by rcases List.mem_cons.mp w with e | w; exact Z.i12 e; exact Z.l2i1 (List.mem_singleton.mp w).symm
  sep2_1 := fun w => by rcases List.mem_cons.mp w with e | w; exact Z.i12 e.symm; exact Z.l1i2 (List.mem_singleton.mp w).symm
theorem five_of {z TI TO j1 j2 c : Addr} (w : c ∈ [z, TI, TO, j1, j2]) : c = z ∨ c = TI ∨ c = TO ∨ c = j1 ∨ c = j2 := by simpa using w
theorem turnM {P : Program} {W : World} {K : PySem.W.Frag} {es : List Expr} {n0 : Nat} {tp : Pos} {l r z TI TO j1 j2 : Addr} (Z : ZipApart z TI TO j1 j2 l r) :
    Turn P W K (.Tuple es n0 tp) (ItM K l r) [z, TI, TO, j1, j2] z (fun n g => IsZip g z TI TO .none ∧ IsPair g TI (.ref j1) (.ref j2) ∧ (∃ p q, IsPair g TO p q) ∧ g.IsTupleIter j1 l n ∧ g.IsListIter j2 r n) where
  mem := List.mem_cons_self ..
  obj := fun n g st c w => by
    obtain ⟨gz, gTI, ⟨p, q, gTO⟩, ⟨u1, f1, _, d1⟩, ⟨u2, f2, _, d2⟩⟩ := st
    rcases five_of w with e | e | e | e | e <;> subst e
    · exact ⟨_, gz, fun v z => nomatch z⟩
    · exact ⟨_, gTI, fun v z => nomatch z⟩
    · exact ⟨_, gTO, fun v z => nomatch z⟩
    · exact ⟨u1, f1, fun v z => by rw [d1] at z; cases z⟩
    · exact ⟨u2, f2, fun v z => by rw [d2] at z; cases z⟩
  keep := fun n g g' st k => by
    obtain ⟨gz, gTI, ⟨p, q, gTO⟩, t1, t2⟩ := st
    exact ⟨k z (by simp) _ gz, k TI (by simp) _ gTI, ⟨p, q, k TO (by simp) _ gTO⟩, t1.at fun u z => k j1 (by simp) u z, t2.at fun u z => k j2 (by simp) u z⟩
  item := by
    intro X eP eW eK hc n pins s σ H E I hf st hg
    subst eP eW eK
    obtain ⟨gz, gTI, ⟨p0, q0, gTO⟩, t1, t2⟩ := st
    obtain ⟨ls, rs, p, q, sl, sr, ep, eq⟩ := hg
    obtain ⟨its, rv, pt, _⟩ := I.tuple sl
    obtain ⟨jts, rw_, pl, _⟩ := I.list sr
    obtain ⟨u, hu, ru⟩ := rv.get ep
    obtain ⟨v, hv, rv2⟩ := rw_.get eq
    have nu : n < its.toArray.size := by simpa using (List.getElem?_eq_some_iff.mp hu).1
    have nv : n < jts.toArray.size := by simpa using (List.getElem?_eq_some_iff.mp hv).1
    have lz : z < s.heap.objs.size := Heap.lt_size gz
    have hh := I.ok.hd hc
    have D1 := Draws.tuple (prog := X.prog) (w := X.w) (A := X.A.in1) hh j1 l Z.l1i1 its.toArray
    have D2 := Draws.list (prog := X.prog) (w := X.w) (A := X.A.in1) hh j2 r Z.l2i2 jts.toArray
    refine wpAny_pyNext_zipD2_item (sep_of Z) D1 D2 gz gTI gTO ⟨t1, pt⟩ ⟨t2, pl.isList⟩ nu nv fun x1 x2 h' tk y1 y2 z' TO' s1' s2' hT hsz hk => ?_
    have e1 : x1 = u := by
      have y1' : its.toArray[n]? = some x1 := y1
      have hu' : its.toArray[n]? = some u := by simpa using hu
      exact Option.some.inj (y1'.symm.trans hu')
    have e2 : x2 = v := by
      have y2' : jts.toArray[n]? = some x2 := y2
      have hv' : jts.toArray[n]? = some v := by simpa using hv
      exact Option.some.inj (y2'.symm.trans hv')
    subst e1 e2
    refine ⟨_, rfl, wpAny_letOwnedTupleGo_zip (s := { s with heap := h', toks := tk }) z' fun h2 z2 sb => ?_⟩
    have far : ∀ c, c ∉ [z, TI, TO, j1, j2] → ∀ o, s.heap.get? c = some o → h2.get? c = some o := fun c w o e =>
      (sb.2 c fun m => w (by simp [m])).trans (hk c o (fun m => w (by simp [m])) (fun m => w (by simp [m])) (fun m => w (by simp [m])) (fun m => w (by simp [m])) e)
    have hT2 : h2.get? s.heap.objs.size = some { cls := .type "tuple", data := .seq #[x1, x2] } := (sb.2 _ (Nat.ne_of_gt lz)).trans hT
    have fresh : ObjOk X.prog X.w (upd H s.heap.objs.size (.tup [p, q])) h2 s.heap.objs.size (.tup [p, q]) :=
      ⟨Nat.le_trans (by decide : 2 ≤ 100000) (by decide), [x1, x2], .cons ru (.cons rv2 .nil), ⟨_, hT2, rfl, _, rfl⟩⟩
    have I2 : Inv X pins σ (upd H s.heap.objs.size (.tup [p, q])) { s with heap := h2, toks := tk } :=
      I.turnedNew (t' := tk) (ch := [z, TI, TO, j1, j2]) (fun c o w e => far c w o e) hf (Nat.le_refl _) fresh
    refine ⟨.ref s.heap.objs.size, _, I2, rfl, ⟨_, p, q, rfl, I.hok.fresh (Nat.le_refl _), rfl, fun m hm => by rw [I.tuple_inj hm sl]; exact ep, fun m hm => by rw [I.list_inj hm sr]; exact eq⟩, ⟨z2, ?_, ⟨x1, x2, ?_⟩, ?_, ?_⟩, fun c w => ?_⟩
    · exact (sb.2 _ Z.TIz).trans (hk _ _ Z.TIz Z.TITO Z.TIi1 Z.TIi2 gTI)
    · exact (sb.2 _ Z.TOz).trans TO'
    · exact s1'.1.at fun o m => (sb.2 _ Z.i1z).trans m
    · exact s2'.1.at fun o m => (sb.2 _ Z.i2z).trans m
    · have lt : c < s.heap.objs.size := by
        rcases five_of w with e | e | e | e | e <;> rw [e]
        · exact lz
        · exact Heap.lt_size gTI
        · exact Heap.lt_size gTO
        · obtain ⟨_, m, _⟩ := t1; exact Heap.lt_size m
        · obtain ⟨_, m, _⟩ := t2; exact Heap.lt_size m
      rw [upd_ne (Nat.ne_of_lt lt)]
      exact (hf c w).1
  done := by
    intro X eP eW eK hc n pins s σ H E I hf st hg
    subst eP eW eK
    obtain ⟨gz, gTI, ⟨p0, q0, gTO⟩, t1, t2⟩ := st
    obtain ⟨ls, rs, sl, sr, n1, n2, n3⟩ := hg
    obtain ⟨its, rv, pt, _⟩ := I.tuple sl
    obtain ⟨jts, rw_, pl, _⟩ := I.list sr
    have m1 : its.toArray.size = ls.length := by simp [rv.length]
    have m2 : jts.toArray.size = rs.length := by simp [rw_.length]
    have hh := I.ok.hd hc
    have D1 := Draws.tuple (prog := X.prog) (w := X.w) (A := X.A.in1) hh j1 l Z.l1i1 its.toArray
    have D2 := Draws.list (prog := X.prog) (w := X.w) (A := X.A.in1) hh j2 r Z.l2i2 jts.toArray
    refine wpAny_pyNext_zipD2_end (sep_of Z) D1 D2 gz gTI gTO ⟨t1, pt⟩ ⟨t2, pl.isList⟩ (by omega) (by omega) (by omega) fun h' tk hk => ⟨rfl, ?_⟩
    exact I.turnedL (t' := tk) (ch := [z, TI, TO, j1, j2]) (fun c o w e => hk c o (fun m => w (by simp [m])) (fun m => w (by simp [m])) (fun m => w (by simp [m])) (fun m => w (by simp [m])) e) hf
  self := fun A n s Q E st q => wpAny_pyIter_zip st.1 q
def iZipM (K : PySem.W.Frag) (ta : TA) : TI := fun σ H R => ta σ H fun vs H1 => ∃ l r ls rs, vs = [.ref l, .ref r] ∧ SqT K H1 l ls ∧ SqL K H1 r rs ∧ R (ItM K l r) H1
theorem pi_zipM {X : Cx} {e e2 : Expr} {ta : TA} {p pos tp : Pos} {es : List Expr} {n0 : Nat} (hg : Gl X "zip") (hm : X.mg "zip" = none) (ha : PA X [e, e2] ta)
    (star1 : starEach [e, e2] X.env = (false, eval e X.env) :: starEach [e2] X.env := by rfl) (star2 : (backTo pos (starEach [e2] X.env)).any (·.1) = false := by rfl) :
    PI X (.Tuple es n0 tp) (.Call (.Name "zip" p) [e, e2] [] pos) (iZipM X.K ta) := by
  refine ⟨fun pins s σ H R I w => ?_⟩
  refine Call_ (ld_blt I hg hm PyProof.Rows.boot_zip (PyProof.Rows.callWith_type1 (thn (ha.run pos pins s σ H _ I w) fun us s1 ⟨vs, H1, I1, r1, q1⟩ => ?_) star1 star2))
  obtain ⟨l, r, ls, rs, rfl, sl, sr, q⟩ := q1
  cases r1 with
  | cons c1 r1 =>
    cases r1 with
    | cons c2 r1 =>
      cases r1
      cases c1
      cases c2
      have fresh : ∀ c, c ∈ [s1.heap.objs.size + 4, s1.heap.objs.size + 2, s1.heap.objs.size + 3, s1.heap.objs.size, s1.heap.objs.size + 1] → FpOk X pins H1 c := fun c w => by
        have le : s1.heap.objs.size ≤ c := by
          rcases five_of w with e | e | e | e | e <;> rw [e] <;> first | exact Nat.le_refl _ | exact Nat.le_add_right _ _
        exact I1.fpOk le (I1.hok.fresh le)
      obtain ⟨its, rv, pt, _⟩ := I1.tuple sl
      obtain ⟨jts, rw_, pl, _⟩ := I1.list sr
      obtain ⟨o1, f1, _⟩ := id pt
      refine zip_begins2 (begins_tuple l its.toArray) (begins_list r jts.toArray) pt pl.isList fun h' gz gTI gTO b1 b2 _ hk => wpAny_pyIter_zip gz ?_
      have J2 : Inv X pins σ H1 { s1 with heap := h' } := I1.kept (t' := s1.toks) hk
      exact ⟨s1.heap.objs.size + 4, [s1.heap.objs.size + 4, s1.heap.objs.size + 2, s1.heap.objs.size + 3, s1.heap.objs.size, s1.heap.objs.size + 1], _, _, H1, rfl, J2, turnM (PySem.W.ktu_apart s1.heap.objs.size l r (Heap.lt_size f1) pl.lt),
        ⟨gz, gTI, ⟨_, _, gTO⟩, ⟨_, b1, rfl, rfl⟩, ⟨_, b2, rfl, rfl⟩⟩, fresh, q⟩
theorem walk_zipM {K : PySem.W.Frag} {l r : Addr} {xs ys : List V} {n : Nat} (h1 : n = xs.length) (h2 : n = ys.length) : Walk (ItM K l r) n (fun H => SqT K H l xs ∧ SqL K H r ys) (YPair (fun i => xs[i]?) (fun i => ys[i]?)) := by
  refine ⟨fun i _ hi q => ?_, fun _ q => ⟨xs, ys, q.1, q.2, by omega, by omega, by omega⟩, fun i H v H2 _ q y => ?_⟩
  · have m1 : i < xs.length := by omega
    have m2 : i < ys.length := by omega
    exact ⟨xs, ys, xs[i], ys[i], q.1, q.2, by simp [m1], by simp [m2]⟩
  · obtain ⟨T, x, z, e1, e2, e3, e4, e5⟩ := y
    exact ⟨T, x, z, e1, e2, e3, e4 xs q.1, e5 ys q.2⟩
end Bm
set_option maxHeartbeats 1000000
/-! enumerate of a tuple -/
namespace Bm
open PySem PySem.Spec PyProof.Rows L2
abbrev enH (g : Heap) (u : Obj) : Heap := (g.push u).push { cls := .type "enumerate", data := .fields #[.none, .bool false, .ref g.objs.size, rawInt 0, .none, .none] }
theorem meets_enum1 {v : Value} {u : Obj} {G : Heap → Prop} (B : Begins v u G) :
    Meets (Builtin.«enumerate.__new__» ⟨[.type "enumerate", v], []⟩) (fun _ R s => G s.heap ∧ R (.ok (.ret (.ref (s.heap.push u).objs.size))) { s with heap := enH s.heap u }) :=
  .of_wp fun P W A R s w => by
    obtain ⟨hp, gs, dr, tk, os⟩ := s
    obtain ⟨b1, w⟩ := w
    have sub_ := sub_enumerate
    have nx : ∀ {A2 : Around} {E2 : Value → Shared → Prop} {Q2 : Value → Shared → Prop}, Q2 (.ref hp.objs.size) ⟨hp.push u, gs, dr, tk, os⟩ → wpAny (model P W) A2 (pyIter v) Q2 E2 ⟨hp, gs, dr, tk, os⟩ :=
      fun z => B.iter P W _ _ ⟨hp, gs, dr, tk, os⟩ _ b1 z
    wp_walk using nx
    refine wpAny_stack_any fun st => wpAny_pure ?_
    split
    · rename_i c _ _ _ _ _
      cases (c == Value.type "enumerate") <;> (wp_walk using nx; exact ⟨_, rfl, w⟩)
    · wp_walk using nx
      exact ⟨_, rfl, w⟩
theorem call_enum1 {P : Program} {W : World} {A : Around} {E : Value → Shared → Prop} {s : Shared} {v : Value} {u : Obj} {G : Heap → Prop} {Q : Value → Shared → Prop} (B : Begins v u G) (b1 : G s.heap)
    (w : ∀ g, IsEnum g (s.heap.objs.size + 1) s.heap.objs.size 0 .none → g.get? s.heap.objs.size = some u → g.objs.size = s.heap.objs.size + 2 → (∀ b o, s.heap.get? b = some o → g.get? b = some o) → Q (.ref (s.heap.objs.size + 1)) { s with heap := g }) :
    wpAny (model P W) A (call (.type "enumerate") [v]) Q E s := by
  refine callType_new F.called_enumerate (by decide) (F.typeCall_enumerate_1 _) (F.newCall_enumerate_1 _) (fun o => F.args_object_init_2 o _) F.entry_enumerate_new (meets_enum1 B) ⟨b1, ?_⟩
  have z1 : (s.heap.push u).objs.size = s.heap.objs.size + 1 := Heap.size_push ..
  have e1 : (enH s.heap u).get? (s.heap.push u).objs.size = some _ := Heap.get?_push_size _ rfl
  show _ ∧ _
  rw [z1] at e1 ⊢
  exact ⟨⟨_, e1, rfl⟩, w _ e1 (Heap.get?_push_of_some _ (Heap.get?_push_size _ B.free)) (by rw [Heap.size_push, z1]) fun b o m => Heap.get?_push_of_some _ (Heap.get?_push_of_some _ m)⟩
def IteT (K : PySem.W.Frag) (l : Addr) : It :=
  ⟨fun n H => ∃ (ls : List V) (p : V), SqT K H l ls ∧ ls[n]? = some p,
    fun n H v H2 => ∃ T p, v = .ref T ∧ H T = none ∧ H2 = upd H T (.tup [.int (n : Nat), p]) ∧ ∀ ls, SqT K H l ls → ls[n]? = some p,
    fun n H => ∃ ls : List V, SqT K H l ls ∧ ls.length = n⟩
theorem two_of {e j c : Addr} (w : c ∈ [e, j]) : c = e ∨ c = j := by simpa using w
theorem turnEnT {P : Program} {W : World} {K : PySem.W.Frag} {es : List Expr} {n0 : Nat} {tp : Pos} {l e j : Addr} (lj : l ≠ j) (el : e ≠ l) (ej : e ≠ j) :
    Turn P W K (.Tuple es n0 tp) (IteT K l) [e, j] e (fun n g => (∃ old, IsEnum g e j ((n : Nat) : Int) old) ∧ g.IsTupleIter j l n) where
  mem := List.mem_cons_self ..
  obj := fun n g st c w => by
    obtain ⟨⟨old, ge⟩, ⟨u1, f1, _, d1⟩⟩ := st
    rcases two_of w with m | m <;> subst m
    · exact ⟨_, ge, fun v z => nomatch z⟩
    · exact ⟨u1, f1, fun v z => by rw [d1] at z; cases z⟩
  keep := fun n g g' st k => by
    obtain ⟨⟨old, ge⟩, t1⟩ := st
    exact ⟨⟨old, k e (by simp) _ ge⟩, t1.at fun u z => k j (by simp) u z⟩
  item := by
    intro X eP eW eK hc n pins s σ H E I hf st hg
    subst eP eW eK
    obtain ⟨⟨old, ge⟩, t1⟩ := st
    obtain ⟨ls, p, sl, ep⟩ := hg
    obtain ⟨its, rv, pt, _⟩ := I.tuple sl
    obtain ⟨u, hu, ru⟩ := rv.get ep
    have nu : n < its.toArray.size := by simpa using (List.getElem?_eq_some_iff.mp hu).1
    have le : e < s.heap.objs.size := Heap.lt_size ge
    have lj2 : j < s.heap.objs.size := by obtain ⟨_, m, _⟩ := t1; exact Heap.lt_size m
    have D1 := Draws.tuple (prog := X.prog) (w := X.w) (A := X.A.in1) (I.ok.hd hc) j l lj its.toArray
    have ef : e ∉ [j, l] := fun w => by rcases List.mem_cons.mp w with m | w; exact ej m; exact el (List.mem_singleton.mp w)
    refine wpAny_pyNext_enum_itemC D1 ge ⟨t1, pt⟩ nu ej ef fun x g1 tk y1 go st1 hT hsz hk => ?_
    have e1 : x = u := by
      have y1' : its.toArray[n]? = some x := y1
      have hu' : its.toArray[n]? = some u := by simpa using hu
      exact Option.some.inj (y1'.symm.trans hu')
    subst e1
    refine ⟨_, rfl, wpAny_letOwnedTupleGo_enum (s := { s with heap := g1, toks := tk + 1 }) go fun g2 he2 sb => ?_⟩
    have hT2 : g2.get? s.heap.objs.size = some { cls := .type "tuple", data := .seq #[.int n tk, x] } := (sb.2 _ (Nat.ne_of_gt le)).trans hT
    have far : ∀ c, c ∉ [e, j] → ∀ o, s.heap.get? c = some o → g2.get? c = some o := fun c w o m => (sb.2 c fun z => w (by simp [z])).trans (hk c o (fun z => w (by simp [z])) (fun z => w (by simp [z])) m)
    have fresh : ObjOk X.prog X.w (upd H s.heap.objs.size (.tup [.int (n : Nat), p])) g2 s.heap.objs.size (.tup [.int (n : Nat), p]) :=
      ⟨Nat.le_trans (by decide : 2 ≤ 100000) (by decide), [.int n tk, x], .cons ⟨_, rfl⟩ (.cons ru .nil), ⟨_, hT2, rfl, _, rfl⟩⟩
    have I2 : Inv X pins σ (upd H s.heap.objs.size (.tup [.int (n : Nat), p])) { s with heap := g2, toks := tk + 1 } :=
      I.turnedNew (t' := tk + 1) (ch := [e, j]) (fun c o w m => far c w o m) hf (Nat.le_refl _) fresh
    refine ⟨.ref s.heap.objs.size, _, I2, rfl, ⟨_, p, rfl, I.hok.fresh (Nat.le_refl _), rfl, fun m hm => by rw [I.tuple_inj hm sl]; exact ep⟩, ⟨⟨x, ?_⟩, st1.1.at fun o m => (sb.2 _ (Ne.symm ej)).trans m⟩, fun c w => ?_⟩
    · have q1 : ((n + 1 : Nat) : Int) = (n : Int) + 1 := by omega
      rw [q1]
      exact he2
    · have lt : c < s.heap.objs.size := by
        rcases two_of w with m | m <;> rw [m]
        · exact le
        · exact lj2
      rw [upd_ne (Nat.ne_of_lt lt)]
      exact (hf c w).1
  done := by
    intro X eP eW eK hc n pins s σ H E I hf st hg
    subst eP eW eK
    obtain ⟨⟨old, ge⟩, t1⟩ := st
    obtain ⟨ls, sl, nl⟩ := hg
    obtain ⟨its, rv, pt, _⟩ := I.tuple sl
    have m1 : its.toArray.size = n := by
      have := rv.length
      simp
      omega
    have D1 := Draws.tuple (prog := X.prog) (w := X.w) (A := X.A.in1) (I.ok.hd hc) j l lj its.toArray
    obtain ⟨f0, f1, f2, f3, f4, f5⟩ := hf j (by simp)
    refine wpAny_pyNext_enum_endD D1 ge (by rw [m1]; exact ⟨t1, pt⟩) fun g1 eb => ⟨rfl, ?_⟩
    exact I.turned (t' := s.toks) (fun b o w m => eb b o w m) f0 f1 f3 f4 f5
  self := fun A n s Q E st q => by
    obtain ⟨⟨old, ge⟩, _⟩ := st
    exact wpAny_pyIter_enum ge q
def iEnumA (K : PySem.W.Frag) (ta : TA) : TI := fun σ H R => ta σ H fun vs H1 => ∃ l ls, vs = [.ref l] ∧ ((SqL K H1 l ls ∧ R (Ite K l) H1) ∨ (SqT K H1 l ls ∧ R (IteT K l) H1))
theorem pi_enumA {X : Cx} {e : Expr} {ta : TA} {p pos tp : Pos} {es : List Expr} {n0 : Nat} (hg : Gl X "enumerate") (hm : X.mg "enumerate" = none) (ha : PA X [e] ta) (hs : starEach [e] X.env = [(false, eval e X.env)] := by rfl) :
    PI X (.Tuple es n0 tp) (.Call (.Name "enumerate" p) [e] [] pos) (iEnumA X.K ta) := by
  refine ⟨fun pins s σ H R I w => ?_⟩
  refine Call_ (ld_blt I hg hm boot_enumerate (PyProof.Rows.callWith_type1 (thn (ha.run pos pins s σ H _ I w) fun us s1 ⟨vs, H1, I1, r1, q1⟩ => ?_) hs rfl))
  obtain ⟨l, ls, rfl, q⟩ := q1
  cases r1 with
  | cons c1 r1 =>
    cases r1
    cases c1
    have fresh : ∀ c, c ∈ [s1.heap.objs.size + 1, s1.heap.objs.size] → FpOk X pins H1 c := fun c w => by
      have le : s1.heap.objs.size ≤ c := by
        rcases two_of w with m | m <;> rw [m] <;> first | exact Nat.le_refl _ | exact Nat.le_add_right _ _
      exact I1.fpOk le (I1.hok.fresh le)
    rcases q with ⟨sl, q⟩ | ⟨sl, q⟩
    · obtain ⟨its, rv, pl, _⟩ := I1.list sl
      refine call_enumerate_list pl.isList fun g he hit _ hk => wpAny_pyIter_enum he ?_
      have I2 : Inv X pins σ H1 { s1 with heap := g } := I1.kept (t' := s1.toks) hk
      exact ⟨s1.heap.objs.size + 1, [s1.heap.objs.size + 1, s1.heap.objs.size], _, _, H1, rfl, I2, turn_enum l (s1.heap.objs.size + 1) s1.heap.objs.size, ⟨⟨.none, he⟩, hit, Nat.succ_ne_self _⟩, fresh, q⟩
    · obtain ⟨its, rv, pt, _⟩ := I1.tuple sl
      obtain ⟨o1, f1, _⟩ := id pt
      have ll := Heap.lt_size f1
      refine call_enum1 (begins_tuple l its.toArray) pt fun g he b1 _ hk => wpAny_pyIter_enum he ?_
      have I2 : Inv X pins σ H1 { s1 with heap := g } := I1.kept (t' := s1.toks) hk
      exact ⟨s1.heap.objs.size + 1, [s1.heap.objs.size + 1, s1.heap.objs.size], _, _, H1, rfl, I2, turnEnT (Nat.ne_of_lt ll) (Nat.ne_of_gt (Nat.lt_succ_of_lt ll)) (Nat.succ_ne_self _), ⟨⟨.none, he⟩, ⟨_, b1, rfl, rfl⟩⟩, fresh, q⟩
theorem walk_enumT {K : PySem.W.Frag} {l : Addr} {xs : List V} : Walk (IteT K l) xs.length (fun H => SqT K H l xs) (YPair (fun i => some (.int (i : Nat))) (fun i => xs[i]?)) := by
  refine ⟨fun i _ hi q => ⟨xs, xs[i], q, by simp [hi]⟩, fun _ q => ⟨xs, q, rfl⟩, fun i H v H2 _ q y => ?_⟩
  obtain ⟨T, x, e1, e2, e3, e4⟩ := y
  exact ⟨T, .int (i : Nat), x, e1, e2, e3, rfl, e4 xs q⟩
end Bm
set_option maxHeartbeats 1000000
/-! texts as lists of signs -/
namespace Bm
open PySem PySem.Spec PyProof.Rows L2
def sg (x : Str) : List Nat := x.cps.toList
theorem sg_ext {a b : Str} (h : sg a = sg b) : a = b := PySem.Str.ext' (Array.toList_inj.mp h)
theorem sg_app (a b : Str) : sg (a ++ b) = sg a ++ sg b := by
  unfold sg
  rw [PySem.Str.cps_append, Array.toList_append]
theorem sg_len (a : Str) : (sg a).length = a.length := Array.length_toList
theorem sg_empty : sg Str.empty = [] := rfl
def mk (l : List Nat) : Str := ⟨l.toArray⟩
theorem sg_mk (l : List Nat) : sg (mk l) = l := by
  unfold sg mk
  simp
theorem mk_sg (a : Str) : mk (sg a) = a := sg_ext (sg_mk _)
/-- a text so many times -/
def repS (x : Str) (n : Nat) : Str := mk (List.replicate n (sg x)).flatten
theorem rep_fold (x : Array Nat) : ∀ (n : Nat) (acc : Array Nat), ((List.replicate n x).foldl (· ++ ·) acc).toList = acc.toList ++ (List.replicate n x.toList).flatten
  | 0, acc => by simp
  | n + 1, acc => by
    rw [List.replicate_succ, List.foldl_cons, rep_fold x n, List.replicate_succ, List.flatten_cons, Array.toList_append, List.append_assoc]
theorem flat_len (l : List Nat) (n : Nat) : (List.replicate n l).flatten.length = n * l.length := by
  induction n with
  | zero => simp
  | succ n ih => rw [List.replicate_succ, List.flatten_cons, List.length_append, ih, Nat.succ_mul, Nat.add_comm]
/-- x * n -/
def rRepS : R2 := fun x y H Q => ∃ (a : Str) (n : Int), x = .str a ∧ y = .int n ∧ -1000 ≤ n ∧ n ≤ 1000 ∧ a.length ≤ 1000 ∧ Q (.str (repS a n.toNat)) H
theorem op_repS {X : Cx} : OpR X (binaryOp .Mult) rRepS := by
  intro pins s σ H x y v u Q I rx ry h
  obtain ⟨a, n, rfl, rfl, h0, h1, hz, q⟩ := h
  obtain ⟨t, rfl⟩ := rx
  obtain ⟨t', rfl⟩ := ry
  have q2 : ∀ (z : Str) (t : Tok) (k : Nat), z = repS a n.toNat → EP X pins σ Q (.str z t) { s with toks := k } := fun z t k e => ⟨.str z, H, I.tok k, ⟨t, rfl⟩, by rw [e]; exact q⟩
  have len : a.length * n.toNat ≤ 1000000 := by
    have : a.length * n.toNat ≤ 1000 * 1000 := Nat.mul_le_mul hz (by omega)
    omega
  have lz : a.length * n.toNat ≤ sizeLine := Nat.le_trans len (by decide)
  have nl : Builtin.Str.tooLong (a.length * n.toNat) = false := by
    unfold Builtin.Str.tooLong
    exact decide_eq_false (Nat.not_lt.mpr lz)
  refine P.mul_str (by rw [decide_eq_false (by omega), decide_eq_false (by omega)]; rfl) (fun g _ => ?_) (fun _ _ => nl) ?_
  · have g1 : (1 : Int) ≤ n := by omega
    have g2 : (1000 : Int) ≤ (2 ^ 63 - 1) / n := Int.le_ediv_of_mul_le (by omega) (by omega)
    omega
  · by_cases c : n < 1
    · rw [if_pos c]
      refine ⟨by decide, q2 _ _ _ (sg_ext ?_)⟩
      unfold repS
      rw [sg_mk, show n.toNat = 0 by omega]
      rfl
    · rw [if_neg c]
      by_cases d : (n == 1 || a.length == 0) = true
      · rw [if_pos d]
        refine q2 _ t s.toks (sg_ext ?_)
        unfold repS
        rw [sg_mk]
        rcases Bool.or_eq_true _ _ ▸ d with d | d
        · rw [beq_iff_eq.mp d]
          simp
        · have e : sg a = [] := List.eq_nil_of_length_eq_zero (by rw [sg_len]; exact beq_iff_eq.mp d)
          rw [e]
          simp
      · rw [if_neg d]
        have e : (⟨(List.replicate n.toNat a.cps).foldl (· ++ ·) #[]⟩ : Str) = repS a n.toNat := sg_ext (by
          unfold repS
          rw [sg_mk]
          have := rep_fold a.cps n.toNat #[]
          rw [List.nil_append] at this
          exact this)
        rw [e]
        refine ⟨?_, q2 _ _ _ rfl⟩
        have e2 : (repS a n.toNat).length = n.toNat * a.length := by
          rw [← sg_len]
          unfold repS
          rw [sg_mk, flat_len, sg_len]
        rw [e2, Nat.mul_comm]
        exact lz
end Bm
set_option maxHeartbeats 2000000
namespace Bm
open PySem PySem.Spec PyProof.Rows Builtin Builtin.Int Builtin.Float
/-- the figures of a number, filled up with 0 to a width -/
def figT (base w : Nat) (n : Nat) : Str := ⟨(List.replicate (w - (Nat.toDigits base n).length) 48 ++ (Nat.toDigits base n).map Char.toNat).toArray⟩
def f04x : FormatSpec := { fill := 48, align := 61, width := some 4, type := some 120 }
def f016b : FormatSpec := { fill := 48, align := 61, width := some 16, type := some 98 }
theorem p04x (name : String) : parseFormatSpec ("04x" : Str).cps.toList name 62 = .ok f04x := by kernel_rfl
theorem p016b (name : String) : parseFormatSpec ("016b" : Str).cps.toList name 62 = .ok f016b := by kernel_rfl
theorem gives_cut {v : Value} {T : String} {n : Nat} {k : String → Sem Fin} {m : Made} (hc : ∀ (prog : Program) (w : World) (A : Around) (s : Shared) (Q : String → Shared → Prop) (E : Value → Shared → Prop), Q T s → wpAny (model prog w) A (typeNameOfCut n v) Q E s) (g : Gives (k T) m) : Gives (do let x ← typeNameOfCut n v; k x) m :=
  fun prog w A R s hq => wpAny_bind (hc _ _ _ _ _ _ (g prog w A R s hq))
theorem gives_as {a b : Sem Fin} {m : Made} (e : b = a) (h : Gives a m) : Gives b m := by
  rw [e]
  exact h
theorem figs_eq {f : FormatSpec} {b k t n g : Nat} (ht : (t == 88) = false) (h1 : f.grouping = none) (h2 : f.sign = none) (h3 : f.fill = 48) (h4 : f.align = 61) (h5 : f.width = some k) : intField' f false [] ((Nat.toDigits b n).map fun c => (if (t == 88) = true then c.toUpper else c).toNat) [] g = figT b k n := by
  have e : (Nat.toDigits b n).map (fun c => (if (t == 88) = true then c.toUpper else c).toNat) = (Nat.toDigits b n).map Char.toNat := List.map_congr_left fun c _ => by rw [ht]; rfl
  have hd : ((Nat.toDigits b n).map Char.toNat).isEmpty = false := by
    have := tDigits_len_ge b n
    cases q : Nat.toDigits b n with
    | nil => rw [q] at this; exact absurd this (by decide)
    | cons x r => rfl
  rw [e, intField'_zero_nonneg f _ g h1 h2 hd h3 h4, h5, List.length_map]
  rfl
theorem gives04x (n : Nat) (t u : Tok) : Gives («int.__format__» ⟨[.int (n : Nat) t, .str "04x" u], []⟩) (.str (figT 16 4 n)) := by
  unfold «int.__format__»
  have e1 : selfAndOne "int.__format__" ⟨[.int (n : Nat) t, .str "04x" u], []⟩ = (pure (.int (n : Nat) t, .str "04x" u) : Sem (Value × Value)) := rfl
  have e2 : intOfSelf (.int (n : Nat) t) = (pure (n : Int) : Sem Int) := rfl
  simp only [e1, e2, pure_bind]
  have c0 : ¬ ((Value.str ("04x" : Str) u == Value.none) = true) := by intro h; cases h
  rw [if_neg c0]
  refine gives_after_typeNameOf (T := "str") (fun s => typeIs_str s _ _) (by decide) fun kind => ?_
  have e3 : asStr? (.str "04x" u) = (pure (some "04x") : Sem (Option Str)) := rfl
  simp only [e3, pure_bind]
  have c1 : ¬ ((("04x" : Str).length == 0) = true) := by decide +kernel
  rw [if_neg c1]
  have c2 : ¬ ((((List.drop 1 ("04x" : Str).cps.toList).any fun x => decide (x ≥ 128)) || decide (("04x" : Str).cps.getD 0 0 ≥ 128) && !([60, 62, 61, 94] : List Nat).contains (("04x" : Str).cps.getD 1 0)) = true) := by decide +kernel
  rw [if_neg c2]
  refine gives_cut (T := "int") (fun prog w A s Q E h => wpAny_typeNameOfCut_int h) ?_
  rw [p04x]
  dsimp only
  have e5 : f04x.type.getD (if (("04x" : Str).cps.back? == some 0) = true then 0 else 100) = 120 := rfl
  rw [e5, if_pos (by decide +kernel)]
  refine gives_as (a := retStr (intField' f04x (decide ((n : Int) < 0)) [] ((Nat.toDigits 16 (n : Int).natAbs).map fun c => (if (120 : Nat) == 88 then c.toUpper else c).toNat) [] 4)) ?_ ?_
  · rfl
  rw [decide_eq_false (by omega), Int.natAbs_natCast, figs_eq (b := 16) (k := 4) (t := 120) (by decide) rfl rfl rfl rfl rfl]
  exact .of_eq rfl
theorem gives016b (n : Nat) (t u : Tok) : Gives («int.__format__» ⟨[.int (n : Nat) t, .str "016b" u], []⟩) (.str (figT 2 16 n)) := by
  unfold «int.__format__»
  have e1 : selfAndOne "int.__format__" ⟨[.int (n : Nat) t, .str "016b" u], []⟩ = (pure (.int (n : Nat) t, .str "016b" u) : Sem (Value × Value)) := rfl
  have e2 : intOfSelf (.int (n : Nat) t) = (pure (n : Int) : Sem Int) := rfl
  simp only [e1, e2, pure_bind]
  have c0 : ¬ ((Value.str ("016b" : Str) u == Value.none) = true) := by intro h; cases h
  rw [if_neg c0]
  refine gives_after_typeNameOf (T := "str") (fun s => typeIs_str s _ _) (by decide) fun kind => ?_
  have e3 : asStr? (.str "016b" u) = (pure (some "016b") : Sem (Option Str)) := rfl
  simp only [e3, pure_bind]
  have c1 : ¬ ((("016b" : Str).length == 0) = true) := by decide +kernel
  rw [if_neg c1]
  have c2 : ¬ ((((List.drop 1 ("016b" : Str).cps.toList).any fun x => decide (x ≥ 128)) || decide (("016b" : Str).cps.getD 0 0 ≥ 128) && !([60, 62, 61, 94] : List Nat).contains (("016b" : Str).cps.getD 1 0)) = true) := by decide +kernel
  rw [if_neg c2]
  refine gives_cut (T := "int") (fun prog w A s Q E h => wpAny_typeNameOfCut_int h) ?_
  rw [p016b]
  dsimp only
  have e5 : f016b.type.getD (if (("016b" : Str).cps.back? == some 0) = true then 0 else 100) = 98 := rfl
  rw [e5, if_pos (by decide +kernel)]
  refine gives_as (a := retStr (intField' f016b (decide ((n : Int) < 0)) [] ((Nat.toDigits 2 (n : Int).natAbs).map fun c => (if (98 : Nat) == 88 then c.toUpper else c).toNat) [] 4)) ?_ ?_
  · rfl
  rw [decide_eq_false (by omega), Int.natAbs_natCast, figs_eq (b := 2) (k := 16) (t := 98) (by decide) rfl rfl rfl rfl rfl]
  exact .of_eq rfl
theorem fig_short {b k n : Nat} (hk : k ≤ 16) (hn : n < 65536) : (figT b k n).length ≤ sizeLine := by
  have h := tDigits_len_le b n
  have e : (figT b k n).length = (List.replicate (k - (Nat.toDigits b n).length) 48 ++ (Nat.toDigits b n).map Char.toNat).length := List.size_toArray
  rw [e, List.length_append, List.length_replicate, List.length_map]
  exact Nat.le_trans (show k - (Nat.toDigits b n).length + (Nat.toDigits b n).length ≤ 100000 by omega) (by decide)
/-- {e:04x}, {e:016b} of a word -/
def tFig (b k : Nat) (te : L2.TE) : L2.TE := fun σ H Q => te σ H fun x H1 => ∃ n : Nat, x = .int (n : Nat) ∧ n < 65536 ∧ Q (.str (figT b k n)) H1
section
variable {X : L2.Cx}
theorem pe_fig {sp : Str} {b k : Nat} {e spec : Expr} {te : L2.TE} {pos : Pos} (he : L2.PE X e te) (hs : L2.PE X spec (L2.tC (.str sp))) (hk : k ≤ 16) (hne : (sp.length == 0) = false) (hz : sp.length ≤ sizeLine) (g : ∀ (n : Nat) (t u : Tok), Gives («int.__format__» ⟨[.int (n : Nat) t, .str sp u], []⟩) (.str (figT b k n))) : L2.PE X (.FormattedValue e (-1) (some spec) pos) (tFig b k te) := by
  constructor
  intro pins s σ H Q I h
  refine wpAny_FormattedValue_spec (L2.thn (he.run pins s σ H _ I h) fun v s1 hv => ?_)
  obtain ⟨x, H1, I1, r1, n, rfl, hn, q⟩ := hv
  obtain ⟨t, rfl⟩ := r1
  refine L2.thn (hs.run pins s1 σ H1 (fun y G => y = .str sp ∧ G = H1) I1 ⟨rfl, rfl⟩) fun u s2 hu => ?_
  obtain ⟨y, G, I2, r2, ey, eG⟩ := hu
  subst ey eG
  obtain ⟨t2, rfl⟩ := r2
  exact ⟨sp, t2, rfl, wpAny_formatField_spec hne (fun s' => typeIs_int s' _ t) F.slot_int_format F.entry_int_format (fun a b => F.args_int_format_2 a b) (fun u => g n t u) ⟨.str (figT b k n), G, I2.tok _, ⟨_, rfl⟩, q⟩ hz (fig_short hk hn)⟩
theorem pe_04x {e : Expr} {te : L2.TE} {pos p1 p2 : Pos} {j : Nat} (he : L2.PE X e te) : L2.PE X (.FormattedValue e (-1) (some (.JoinedStr [.Constant (.str "04x") j p1] p2)) pos) (tFig 16 4 te) :=
  pe_fig (sp := "04x") he (L2.pe_joined1 L2.pe_str) (by decide) (by decide +kernel) (by decide +kernel) gives04x
theorem pe_016b {e : Expr} {te : L2.TE} {pos p1 p2 : Pos} {j : Nat} (he : L2.PE X e te) : L2.PE X (.FormattedValue e (-1) (some (.JoinedStr [.Constant (.str "016b") j p1] p2)) pos) (tFig 2 16 te) :=
  pe_fig (sp := "016b") he (L2.pe_joined1 L2.pe_str) (by decide) (by decide +kernel) (by decide +kernel) gives016b
end
end Bm
set_option maxHeartbeats 1000000
/-! texts of plain signs -/
namespace Bm
open PySem PySem.Spec PyProof.Rows L2
def Cl (x : Str) : Prop := ∀ c ∈ sg x, 32 ≤ c ∧ c < 127
theorem Cl.app {a b : Str} (h : Cl a) (g : Cl b) : Cl (a ++ b) := fun c hc => by
  rw [sg_app, List.mem_append] at hc
  exact hc.elim (h c) (g c)
theorem cl_lit (x : Str) (h : (sg x).all (fun c => decide (32 ≤ c) && decide (c < 127)) = true) : Cl x := fun c hc => by
  have := List.all_eq_true.mp h c hc
  simp only [Bool.and_eq_true, decide_eq_true_eq] at this
  exact this
theorem cl_int (i : Int) : Cl (PySem.Str.ofString (toString i)) := fun c hc => by
  by_cases e : c ≠ 45 ∧ (c < 48 ∨ 57 < c)
  · exact absurd hc (int_text_free' c e i)
  · omega
theorem Cl.ok {x : Str} (h : Cl x) : PyData.strOk x = true := by
  unfold PyData.strOk
  rw [← Array.all_toList, List.all_eq_true]
  exact fun c hc => decide_eq_true (by have := (h c hc).2; omega)
theorem join_one (x a : Str) : Txt.join x [a] = a := by
  unfold Txt.join
  rw [PySem.StrLaws.glued_eq_join]
  rfl
theorem join_nil (x : Str) : Txt.join x [] = Str.empty := by
  unfold Txt.join
  rw [PySem.StrLaws.glued_eq_join]
  rfl
theorem join_more (x a b : Str) (l : List Str) : Txt.join x (a :: b :: l) = a ++ x ++ Txt.join x (b :: l) := by
  unfold Txt.join
  rw [PySem.StrLaws.glued_eq_join, PySem.StrLaws.glued_eq_join]
  rfl
theorem cl_empty : Cl Str.empty := fun c hc => by cases hc
theorem cl_join {x : Str} (hx : Cl x) : ∀ {l : List Str}, (∀ y ∈ l, Cl y) → Cl (Txt.join x l)
  | [], _ => by rw [join_nil]; exact cl_empty
  | [a], h => by rw [join_one]; exact h a (List.mem_cons_self ..)
  | a :: b :: l, h => by
    rw [join_more]
    exact ((h a (List.mem_cons_self ..)).app hx).app (cl_join hx fun y hy => h y (List.mem_cons_of_mem _ hy))
/-- figures of a number, the first first -/
def dg (d : Nat) : Nat := (Nat.digitChar d).toNat
def figs (b : Nat) : Nat → Nat → List Nat
  | 0, _ => []
  | k + 1, n => figs b k (n / b) ++ [dg (n % b)]
theorem figs_zero (b : Nat) : ∀ k, figs b k 0 = List.replicate k 48
  | 0 => rfl
  | k + 1 => by
    unfold figs
    rw [Nat.zero_div, Nat.zero_mod, figs_zero b k, List.replicate_succ']
    rfl
theorem figs_len (b : Nat) : ∀ k n, (figs b k n).length = k
  | 0, _ => rfl
  | k + 1, n => by
    unfold figs
    rw [List.length_append, figs_len b k]
    rfl
theorem figs_cons (b : Nat) : ∀ k n, figs b (k + 1) n = dg (n / b ^ k % b) :: figs b k n
  | 0, n => by
    unfold figs figs
    rw [Nat.pow_zero, Nat.div_one]
    rfl
  | k + 1, n => by
    rw [figs, figs_cons b k (n / b), Nat.div_div_eq_div_mul, ← Nat.pow_succ', List.cons_append]
    rfl
theorem fig_figs {b : Nat} (hb : 1 < b) : ∀ k n, n < b ^ (k + 1) → List.replicate (k + 1 - (Nat.toDigits b n).length) 48 ++ (Nat.toDigits b n).map Char.toNat = figs b (k + 1) n
  | 0, n, h => by
    rw [Nat.toDigits_of_lt_base (by simpa using h)]
    have e : n % b = n := Nat.mod_eq_of_lt (by simpa using h)
    show [] ++ [dg n] = [] ++ [dg (n % b)]
    rw [e]
  | k + 1, n, h => by
    by_cases c : n < b
    · rw [Nat.toDigits_of_lt_base c, figs, Nat.div_eq_of_lt c, Nat.mod_eq_of_lt c, figs_zero]
      rfl
    · have hm : n % b < b := Nat.mod_lt n (by omega)
      have t : Nat.toDigits b (n / b) ++ Nat.toDigits b (n % b) = Nat.toDigits b (b * (n / b) + n % b) := Nat.toDigits_append_toDigits hb (Nat.div_pos (by omega) (by omega)) hm
      rw [Nat.div_add_mod] at t
      have ih := fig_figs hb k (n / b) (Nat.div_lt_of_lt_mul (by rw [← Nat.pow_succ']; exact h))
      rw [← t, List.map_append, Nat.toDigits_of_lt_base hm, List.length_append, List.length_singleton, Nat.add_sub_add_right, ← List.append_assoc, ih]
      rfl
theorem sg_fig {b k n : Nat} (hb : 1 < b) (h : n < b ^ (k + 1)) : sg (figT b (k + 1) n) = figs b (k + 1) n := fig_figs hb k n h
theorem dg_plain : ∀ d, d < 16 → 48 ≤ dg d ∧ dg d < 103 := by decide
theorem figs_plain {b : Nat} (hb : 0 < b) (h : b ≤ 16) : ∀ k n, ∀ c ∈ figs b k n, 48 ≤ c ∧ c < 103
  | 0, _, c, hc => by cases hc
  | k + 1, n, c, hc => by
    unfold figs at hc
    rw [List.mem_append, List.mem_singleton] at hc
    rcases hc with hc | rfl
    · exact figs_plain hb h k _ c hc
    · exact dg_plain _ (Nat.lt_of_lt_of_le (Nat.mod_lt _ hb) h)
theorem cl_fig {b k n : Nat} (hb : 1 < b) (h16 : b ≤ 16) (h : n < b ^ (k + 1)) : Cl (figT b (k + 1) n) := fun c hc => by
  rw [sg_fig hb h] at hc
  have := figs_plain (by omega) h16 _ _ c hc
  omega
theorem blank_not : ∀ c, c < 127 → 33 ≤ c → Unicode.isSpace c = false := by decide +kernel
theorem cl_blank {x : Str} (h : Cl x) {c : Nat} (hc : c ∈ sg x) : Unicode.isSpace c = decide (c = 32) := by
  have := h c hc
  by_cases e : c = 32
  · rw [e]; decide +kernel
  · rw [decide_eq_false e]
    exact blank_not c this.2 (by omega)
end Bm
set_option maxHeartbeats 1000000
/-! what is done with texts, told of their signs -/
namespace Bm
open PySem PySem.Spec PyProof.Rows L2
abbrev Tx := List Nat
theorem sg_sub (x : Str) (i j : Nat) : sg (Builtin.Str.strSub x i j) = ((sg x).drop i).take (j - i) := by
  unfold sg Builtin.Str.strSub
  simp [Array.toList_extract, List.extract_eq_take_drop]
def ltrim (p : Nat → Bool) (l : Tx) : Tx := l.dropWhile p
def rtrim (p : Nat → Bool) (l : Tx) : Tx := (l.reverse.dropWhile p).reverse
theorem drop_tw (p : Nat → Bool) : ∀ l : Tx, l.drop (l.takeWhile p).length = l.dropWhile p
  | [] => rfl
  | c :: l => by
    rw [List.takeWhile_cons, List.dropWhile_cons]
    cases p c with
    | true => exact drop_tw p l
    | false => rfl
theorem rtrim_eq (p : Nat → Bool) (l : Tx) : l.take (l.length - (l.reverse.takeWhile p).length) = rtrim p l := by
  unfold rtrim
  have s := List.takeWhile_append_dropWhile (p := p) (l := l.reverse)
  have s2 := congrArg List.reverse s
  rw [List.reverse_append, List.reverse_reverse] at s2
  have len := congrArg List.length s2
  rw [List.length_append, List.length_reverse, List.length_reverse] at len
  rw [show l.length - (l.reverse.takeWhile p).length = (l.reverse.dropWhile p).reverse.length by rw [List.length_reverse]; omega]
  generalize (l.reverse.dropWhile p).reverse = a at s2 ⊢
  rw [← s2, List.take_left]
theorem sg_stripBy (p : Nat → Bool) (a b : Bool) (x : Str) : sg (Txt.stripBy p a b x) = (if b = true then rtrim p (if a = true then ltrim p (sg x) else sg x) else (if a = true then ltrim p (sg x) else sg x)) := by
  have e0 : sg (Txt.stripBy p a b x) = sg (stripped p a b x) := by
    unfold Txt.stripBy
    split
    · rename_i e
      simp only [stripSame, Bool.and_eq_true, beq_iff_eq] at e
      unfold stripped
      have e2 := e.2
      rw [e.1] at e2
      rw [sg_sub, e.1, e2, List.drop_zero, Nat.sub_zero, ← sg_len, List.take_length]
    · rfl
  rw [e0]
  unfold stripped
  rw [sg_sub]
  have hlo : (sg x).drop (stripLo p a x) = if a = true then ltrim p (sg x) else sg x := by
    unfold stripLo
    cases a with
    | true => exact drop_tw p (sg x)
    | false => exact List.drop_zero ..
  have hle : stripLo p a x ≤ (sg x).length := by
    unfold stripLo
    cases a with
    | true => exact (List.takeWhile_sublist p).length_le
    | false => exact Nat.zero_le _
  have hl := congrArg List.length hlo
  rw [List.length_drop] at hl
  unfold stripHi
  have hd : x.cps.toList.drop (stripLo p a x) = if a = true then ltrim p (sg x) else sg x := hlo
  rw [hlo]
  generalize (if a = true then ltrim p (sg x) else sg x) = y at hl hd ⊢
  cases b with
  | true =>
    rw [if_pos rfl, if_pos rfl, hd, ← sg_len, ← rtrim_eq]
    refine congrArg (fun z => List.take z _) ?_
    omega
  | false =>
    rw [if_neg Bool.false_ne_true, if_neg Bool.false_ne_true, ← sg_len]
    exact List.take_of_length_le (by omega)
/-! blanks at the ends -/
def blk (c : Nat) : Bool := c == 32
def stripT (l : Tx) : Tx := rtrim blk (ltrim blk l)
theorem rtrim_sub (p : Nat → Bool) (l : Tx) : ∀ c ∈ rtrim p l, c ∈ l := fun c h => List.mem_reverse.mp ((List.dropWhile_sublist p).subset (List.mem_reverse.mp h))
theorem ltrim_sub (p : Nat → Bool) (l : Tx) : ∀ c ∈ ltrim p l, c ∈ l := fun c h => (List.dropWhile_sublist p).subset h
theorem stripT_sub (l : Tx) : ∀ c ∈ stripT l, c ∈ l := fun c h => ltrim_sub _ _ c (rtrim_sub _ _ c h)
theorem ltrim_len (p : Nat → Bool) (l : Tx) : (ltrim p l).length ≤ l.length := (List.dropWhile_sublist p).length_le
theorem rtrim_len (p : Nat → Bool) (l : Tx) : (rtrim p l).length ≤ l.length := by
  unfold rtrim
  rw [List.length_reverse]
  exact Nat.le_trans (List.dropWhile_sublist p).length_le (by rw [List.length_reverse]; exact Nat.le_refl _)
theorem stripT_len (l : Tx) : (stripT l).length ≤ l.length := Nat.le_trans (rtrim_len _ _) (ltrim_len _ _)
theorem drop_eq {p q : Nat → Bool} : ∀ l : Tx, (∀ c ∈ l, p c = q c) → l.dropWhile p = l.dropWhile q
  | [], _ => rfl
  | c :: l, h => by
    rw [List.dropWhile_cons, List.dropWhile_cons, h c (List.mem_cons_self ..), drop_eq l fun y hy => h y (List.mem_cons_of_mem _ hy)]
/-- of plain signs -/
def ClT (l : Tx) : Prop := ∀ c ∈ l, 32 ≤ c ∧ c < 127
theorem cl_mk {l : Tx} (h : ClT l) : Cl (mk l) := fun c hc => h c (by rw [sg_mk] at hc; exact hc)
theorem ClT.sub {l m : Tx} (h : ClT l) (s : ∀ c ∈ m, c ∈ l) : ClT m := fun c hc => h c (s c hc)
theorem mk_eq {x : Str} {l : Tx} (h : sg x = l) : x = mk l := sg_ext (by rw [h, sg_mk])
theorem mk_len (l : Tx) : (mk l).length = l.length := by rw [← sg_len, sg_mk]
theorem mk_inj {l m : Tx} (h : mk l = mk m) : l = m := by have := congrArg sg h; rwa [sg_mk, sg_mk] at this
theorem strip_mk {l : Tx} (h : ClT l) : Txt.strip (mk l) = mk (stripT l) := mk_eq (by
  unfold Txt.strip
  rw [sg_stripBy, sg_mk]
  have e : ∀ m : Tx, ClT m → m.dropWhile Unicode.isSpace = m.dropWhile blk := fun m hm => drop_eq m fun c hc => by
    rw [cl_blank (cl_mk hm) (by rw [sg_mk]; exact hc)]
    rfl
  have e1 : ltrim Unicode.isSpace l = ltrim blk l := e l h
  rw [if_pos rfl, if_pos rfl, e1]
  unfold stripT rtrim
  rw [e _ fun c hc => h c (ltrim_sub _ _ c (List.mem_reverse.mp hc))])
theorem lstripChars_mk (l m : Tx) : Txt.lstripChars (mk l) (mk m) = mk (ltrim m.contains l) := mk_eq (by
  unfold Txt.lstripChars
  rw [sg_stripBy, sg_mk, if_neg (by decide), if_pos rfl]
  have e : (mk m).cps.contains = m.contains := by
    funext c
    have : (mk m).cps.toList = m := sg_mk m
    have e2 : (mk m).cps.toList.contains c = (mk m).cps.contains c := Array.contains_toList
    rw [← e2, this]
  rw [e])
/-! small letters -/
def low1 (c : Nat) : Nat := if 65 ≤ c ∧ c ≤ 90 then c + 32 else c
def lowT (l : Tx) : Tx := l.map low1
theorem low1_cl {c : Nat} (h : 32 ≤ c ∧ c < 127) : 32 ≤ low1 c ∧ low1 c < 127 := by
  unfold low1
  split <;> omega
theorem lower_mk {l : Tx} (h : ClT l) : Txt.lower (mk l) = mk (lowT l) := mk_eq (by
  rw [lower_ascii fun c hc => by have := (h c (by have e : (mk l).cps.toList = l := sg_mk l; rw [e] at hc; exact hc)).2; omega]
  unfold sg
  rw [Array.toList_map]
  have e : (mk l).cps.toList = l := sg_mk l
  rw [e]
  rfl)
/-! a text cut at a sign -/
def splitT (c : Nat) : Tx → List Tx
  | [] => [[]]
  | x :: l => if x = c then [] :: splitT c l else match splitT c l with
    | [] => [[x]]
    | p :: ps => (x :: p) :: ps
def joinT (c : Nat) : List Tx → Tx
  | [] => []
  | [a] => a
  | a :: b :: r => a ++ c :: joinT c (b :: r)
theorem splitT_ne (c : Nat) : ∀ l : Tx, splitT c l ≠ []
  | [] => fun z => by cases z
  | x :: l => fun z => by
    unfold splitT at z
    split at z
    · cases z
    · split at z <;> cases z
theorem splitT_free {c : Nat} : ∀ {a : Tx}, c ∉ a → splitT c a = [a]
  | [], _ => rfl
  | x :: a, h => by
    unfold splitT
    rw [if_neg (fun z => h (by rw [z]; exact List.mem_cons_self ..)), splitT_free fun z => h (List.mem_cons_of_mem _ z)]
theorem splitT_app {c : Nat} (l : Tx) : ∀ {a : Tx}, c ∉ a → splitT c (a ++ c :: l) = a :: splitT c l
  | [], _ => by
    show splitT c (c :: l) = _
    rw [splitT, if_pos rfl]
  | x :: a, h => by
    show splitT c (x :: (a ++ c :: l)) = _
    rw [splitT, if_neg (fun z => h (by rw [z]; exact List.mem_cons_self ..)), splitT_app l fun z => h (List.mem_cons_of_mem _ z)]
theorem split_join {c : Nat} : ∀ {ps : List Tx}, ps ≠ [] → (∀ p ∈ ps, c ∉ p) → splitT c (joinT c ps) = ps
  | [], h, _ => absurd rfl h
  | [a], _, h => splitT_free (h a (List.mem_cons_self ..))
  | a :: b :: r, _, h => by
    show splitT c (a ++ c :: joinT c (b :: r)) = _
    rw [splitT_app _ (h a (List.mem_cons_self ..)), split_join (ps := b :: r) (fun z => by cases z) fun p hp => h p (List.mem_cons_of_mem _ hp)]
theorem sg_joinC (c : Nat) : ∀ ps : List Str, sg (PySem.Str.join ⟨#[c]⟩ ps) = joinT c (ps.map sg)
  | [] => rfl
  | [a] => by rw [PyProof.Rows.join_one]; rfl
  | a :: b :: r => by
    rw [join_cons_cons, sg_app, sg_app, sg_joinC c (b :: r)]
    show (sg a ++ [c]) ++ _ = sg a ++ c :: _
    rw [List.append_assoc]
    rfl
theorem split_mk (c : Nat) (l : Tx) : Txt.split (mk l) ⟨#[c]⟩ = (splitT c l).map mk := by
  have h1 := sg_joinC c (Txt.split (mk l) ⟨#[c]⟩)
  rw [StrLaws.join_split, sg_mk] at h1
  have h2 : (Txt.split (mk l) ⟨#[c]⟩).map sg ≠ [] := fun z => by
    have := split_pos (mk l) ⟨#[c]⟩
    rw [List.map_eq_nil_iff.mp z] at this
    exact absurd this (by decide)
  have h3 : splitT c l = (Txt.split (mk l) ⟨#[c]⟩).map sg := by
    refine (congrArg (splitT c) h1).trans (split_join h2 fun p hp => ?_)
    obtain ⟨q, hq, rfl⟩ := List.mem_map.mp hp
    exact StrLaws.split_free _ _ _ hq
  rw [h3, List.map_map]
  have : (mk ∘ sg) = id := funext fun x => mk_sg x
  rw [this, List.map_id]
theorem splitT_sub {c : Nat} : ∀ {l : Tx} {p : Tx}, p ∈ splitT c l → ∀ x ∈ p, x ∈ l ∧ x ≠ c
  | [], p, hp, x, hx => by
    rw [List.mem_singleton.mp hp] at hx
    cases hx
  | y :: l, p, hp, x, hx => by
    unfold splitT at hp
    split at hp
    · rcases List.mem_cons.mp hp with rfl | hp
      · cases hx
      · obtain ⟨a, b⟩ := splitT_sub hp x hx
        exact ⟨List.mem_cons_of_mem _ a, b⟩
    · rename_i hy
      split at hp
      · rename_i e
        exact absurd e (splitT_ne c l)
      · rename_i q qs e
        rcases List.mem_cons.mp hp with rfl | hp
        · rcases List.mem_cons.mp hx with rfl | hx
          · exact ⟨List.mem_cons_self .., hy⟩
          · obtain ⟨a, b⟩ := splitT_sub (l := l) (by rw [e]; exact List.mem_cons_self ..) x hx
            exact ⟨List.mem_cons_of_mem _ a, b⟩
        · obtain ⟨a, b⟩ := splitT_sub (l := l) (p := p) (by rw [e]; exact List.mem_cons_of_mem _ hp) x hx
          exact ⟨List.mem_cons_of_mem _ a, b⟩
theorem splitT_len (c : Nat) : ∀ l : Tx, (splitT c l).length ≤ l.length + 1
  | [] => Nat.le_refl _
  | x :: l => by
    have ih := splitT_len c l
    unfold splitT
    split
    · simp only [List.length_cons]
      omega
    · split
      · simp
      · rename_i e
        rw [e] at ih
        simp only [List.length_cons] at ih ⊢
        omega
theorem splitT_plen {c : Nat} : ∀ {l p : Tx}, p ∈ splitT c l → p.length ≤ l.length
  | [], p, hp => by rw [List.mem_singleton.mp hp]; exact Nat.le_refl _
  | y :: l, p, hp => by
    unfold splitT at hp
    split at hp
    · rcases List.mem_cons.mp hp with rfl | hp
      · exact Nat.zero_le _
      · exact Nat.le_succ_of_le (splitT_plen hp)
    · split at hp
      · rename_i e
        exact absurd e (splitT_ne c l)
      · rename_i q qs e
        rcases List.mem_cons.mp hp with rfl | hp
        · exact Nat.succ_le_succ (splitT_plen (l := l) (by rw [e]; exact List.mem_cons_self ..))
        · exact Nat.le_succ_of_le (splitT_plen (l := l) (by rw [e]; exact List.mem_cons_of_mem _ hp))
/-! a text in two at the first of a sign -/
def aheadT (c : Nat) (l : Tx) : Tx := l.takeWhile (· != c)
def behindT (c : Nat) (l : Tx) : Tx := (l.dropWhile (· != c)).drop 1
theorem at_one {x : Str} {c i : Nat} : StrLaws.At x ⟨#[c]⟩ x.length i ↔ (sg x)[i]? = some c := by
  unfold StrLaws.At Builtin.Str.subAt
  show i + 1 ≤ x.length ∧ (x.cps.extract i (i + 1) == #[c]) = true ↔ _
  rw [StrLaws.beq_toList, beq_iff_eq]
  have e : (x.cps.extract i (i + 1)).toList = ((sg x).drop i).take 1 := by
    have := sg_sub x i (i + 1)
    rw [show i + 1 - i = 1 by omega] at this
    exact this
  rw [e, ← sg_len]
  constructor
  · rintro ⟨h, h2⟩
    rw [List.drop_eq_getElem_cons (by omega)] at h2
    rw [List.getElem?_eq_getElem (by omega)]
    exact congrArg some (List.cons.inj h2).1
  · intro h
    obtain ⟨hi, e⟩ := List.getElem?_eq_some_iff.mp h
    refine ⟨by omega, ?_⟩
    rw [List.drop_eq_getElem_cons hi, e]
    rfl
theorem tw_at {c : Nat} : ∀ {l : Tx} {i : Nat}, l[i]? = some c → (∀ k, k < i → l[k]? ≠ some c) → l.takeWhile (· != c) = l.take i ∧ l.dropWhile (· != c) = l.drop i
  | [], i, h, _ => by cases h
  | x :: l, 0, h, _ => by
    have : x = c := Option.some.inj h
    subst this
    simp
  | x :: l, i + 1, h, g => by
    have hx : (x != c) = true := bne_iff_ne.mpr fun z => g 0 (Nat.succ_pos _) (by rw [z]; rfl)
    obtain ⟨a, b⟩ := tw_at (l := l) (i := i) h fun k hk => g (k + 1) (Nat.succ_lt_succ hk)
    constructor
    · rw [List.takeWhile_cons, hx, if_pos rfl, a]
      rfl
    · rw [List.dropWhile_cons, hx, if_pos rfl, b]
      rfl
theorem tw_all {p : Nat → Bool} : ∀ {l : Tx}, (∀ x ∈ l, p x = true) → l.takeWhile p = l
  | [], _ => rfl
  | x :: l, h => by rw [List.takeWhile_cons, h x (List.mem_cons_self ..), if_pos rfl, tw_all fun y hy => h y (List.mem_cons_of_mem _ hy)]
theorem dw_all {p : Nat → Bool} : ∀ {l : Tx}, (∀ x ∈ l, p x = true) → l.dropWhile p = []
  | [], _ => rfl
  | x :: l, h => by rw [List.dropWhile_cons, h x (List.mem_cons_self ..), if_pos rfl, dw_all fun y hy => h y (List.mem_cons_of_mem _ hy)]
theorem part_mk (c : Nat) (l : Tx) : Txt.partition (mk l) ⟨#[c]⟩ = (mk (aheadT c l), (if c ∈ l then ⟨#[c]⟩ else Str.empty), mk (behindT c l)) := by
  rcases partition_whole (mk l) ⟨#[c]⟩ with ⟨e, h⟩ | ⟨i, e, h, g⟩
  · have hc : c ∉ l := fun z => by
      obtain ⟨i, hi, e⟩ := List.getElem_of_mem z
      exact h i (at_one.mpr (by rw [sg_mk, List.getElem?_eq_getElem hi, e]))
    have h1 : l.takeWhile (· != c) = l := tw_all fun x hx => bne_iff_ne.mpr fun z => hc (by rw [← z]; exact hx)
    have h2 : l.dropWhile (· != c) = [] := dw_all fun x hx => bne_iff_ne.mpr fun z => hc (by rw [← z]; exact hx)
    rw [e, if_neg hc]
    unfold aheadT behindT
    rw [h1, h2]
    rfl
  · have hi := at_one.mp h
    rw [sg_mk] at hi
    have hc : c ∈ l := List.mem_of_getElem? hi
    obtain ⟨a, b⟩ := tw_at hi fun k hk z => g k hk (at_one.mpr (by rw [sg_mk]; exact z))
    rw [e, if_pos hc]
    have e1 : Builtin.Str.strSub (mk l) 0 i = mk (aheadT c l) := mk_eq (by
      rw [sg_sub, sg_mk, List.drop_zero, Nat.sub_zero]
      exact a.symm)
    have e2 : Builtin.Str.strSub (mk l) (i + 1) (mk l).length = mk (behindT c l) := mk_eq (by
      rw [sg_sub, sg_mk, mk_len]
      unfold behindT
      rw [b, List.drop_drop]
      exact List.take_of_length_le (by rw [List.length_drop]; exact Nat.le_refl _))
    rw [e1]
    show (_, _, Builtin.Str.strSub (mk l) (i + 1) (mk l).length) = _
    rw [e2]
theorem ahead_sub (c : Nat) (l : Tx) : ∀ x ∈ aheadT c l, x ∈ l := fun x h => (List.takeWhile_sublist _).subset h
theorem behind_sub (c : Nat) (l : Tx) : ∀ x ∈ behindT c l, x ∈ l := fun x h => (List.dropWhile_sublist _).subset (List.drop_subset _ _ h)
theorem ahead_len (c : Nat) (l : Tx) : (aheadT c l).length ≤ l.length := (List.takeWhile_sublist _).length_le
theorem behind_len (c : Nat) (l : Tx) : (behindT c l).length ≤ l.length := by
  unfold behindT
  rw [List.length_drop]
  have := (List.dropWhile_sublist (p := (· != c)) (l := l)).length_le
  omega
/-! a text that another stands ahead in -/
def startsT (m l : Tx) : Bool := l.take m.length == m
theorem starts_mk (l m : Tx) : Txt.startswith (mk l) (mk m) = startsT m l := by
  unfold Txt.startswith startsT Builtin.Str.subAt
  rw [StrLaws.beq_toList, mk_len, mk_len, Nat.zero_add]
  have e : ((mk l).cps.extract 0 m.length).toList = l.take m.length := by
    have := sg_sub (mk l) 0 m.length
    rw [sg_mk, List.drop_zero, Nat.sub_zero] at this
    exact this
  have e2 : (mk m).cps.toList = m := sg_mk m
  rw [e, e2]
  by_cases h : l.take m.length = m
  · rw [h, beq_self_eq_true, Bool.and_true]
    have := congrArg List.length h
    rw [List.length_take] at this
    exact decide_eq_true (by omega)
  · rw [beq_eq_false_iff_ne.mpr h, Bool.and_false]
/-! texts glued -/
theorem join_empty_mk : ∀ ls : List Tx, Txt.join Str.empty (ls.map mk) = mk ls.flatten
  | [] => by rw [List.map_nil, Bm.join_nil]; rfl
  | [a] => by rw [List.map_cons, List.map_nil, Bm.join_one]; simp
  | a :: b :: r => by
    rw [List.map_cons, List.map_cons, join_more]
    refine mk_eq ?_
    have ih := join_empty_mk (b :: r)
    rw [List.map_cons] at ih
    rw [sg_app, sg_app, ih, sg_mk, sg_mk, sg_empty, List.append_nil]
    rfl
end Bm
set_option maxHeartbeats 1000000
/-! attributes as targets of tuples; enumerate of a text -/
namespace Bm
open PySem PySem.Spec PyProof.Rows L2
def gFld (K : PySem.W.Frag) (to : TE) (f : Str) : TG := fun v σ H Q => to σ H fun x H1 => ∃ a C dx fs, x = .ref a ∧ H1 a = some (.ins C dx fs) ∧ Cls K C ∧ NoAttr K C f ∧ fs.length < 1000 ∧ Q σ (upd H1 a (.ins C dx (putF f v fs)))
theorem pg_fld {X : Cx} {o : Expr} {f : Str} {pos : Pos} {to : TE} (ho : PE X o to) : PG X (.Attribute o f pos) (gFld X.K to f) := by
  refine ⟨fun pins s σ H v u Q I r h => ?_⟩
  have ha : assign (.Attribute o f pos) X.env u = (do
      let ov ← holding [u] (eval o X.env)
      standAt pos.atName
      holding [u, ov] (setAttr ov f u)
      release [u, ov] []) := rfl
  rw [ha]
  refine wpAny_bind (wpAny_holding (thn (ho.run pins s σ H _ I h) fun ov s1 ⟨x, H1, I1, r1, a, C, dx, fs, ex, ea, c, n, l, q⟩ => ?_))
  subst ex
  obtain rfl : ov = Value.ref a := r1
  refine wpAny_bind (wpAny_standAt (wpAny_bind (wpAny_holding (setattr_ok I1 ea c n l r fun s2 I2 => ?_))))
  exact wpAny_release ⟨σ, _, I2, q⟩
def IteS (z : Str) : It :=
  ⟨fun n _ => n < z.cps.size,
    fun n H v H2 => ∃ T c, v = .ref T ∧ H T = none ∧ z.cps[n]? = some c ∧ H2 = upd H T (.tup [.int (n : Nat), .str ⟨#[c]⟩]),
    fun n _ => n = z.cps.size⟩
theorem turnEnS {P : Program} {W : World} {K : PySem.W.Frag} {es : List Expr} {n0 : Nat} {tp : Pos} {z : Str} {tt : Tok} {e j : Addr} (ej : e ≠ j) :
    Turn P W K (.Tuple es n0 tp) (IteS z) [e, j] e (fun n g => (∃ old, IsEnum g e j ((n : Nat) : Int) old) ∧ g.IsStrIter j (strIterType z) z tt n) where
  mem := List.mem_cons_self ..
  obj := fun n g st c w => by
    obtain ⟨⟨old, ge⟩, ⟨u1, f1, _, d1⟩⟩ := st
    rcases two_of w with m | m <;> subst m
    · exact ⟨_, ge, fun v z => nomatch z⟩
    · exact ⟨u1, f1, fun v z => by rw [d1] at z; cases z⟩
  keep := fun n g g' st k => by
    obtain ⟨⟨old, ge⟩, ⟨u1, f1, c1, d1⟩⟩ := st
    exact ⟨⟨old, k e (by simp) _ ge⟩, ⟨u1, k j (by simp) _ f1, c1, d1⟩⟩
  item := by
    intro X eP eW eK hc n pins s σ H E I hf st hg
    subst eP eW eK
    obtain ⟨⟨old, ge⟩, t1⟩ := st
    have le : e < s.heap.objs.size := Heap.lt_size ge
    have lj2 : j < s.heap.objs.size := by obtain ⟨_, m, _⟩ := t1; exact Heap.lt_size m
    have D1 := Draws.text (prog := X.prog) (w := X.w) (A := X.A.in1) (I.ok.hd hc) j z tt
    have ef : e ∉ [j] := fun w => ej (List.mem_singleton.mp w)
    refine wpAny_pyNext_enum_itemC D1 ge t1 hg ej ef fun x g1 tk y1 go st1 hT hsz hk => ?_
    obtain ⟨c, u, hcz, rfl⟩ := y1
    refine ⟨_, rfl, wpAny_letOwnedTupleGo_enum (s := { s with heap := g1, toks := tk + 1 }) go fun g2 he2 sb => ?_⟩
    have hT2 : g2.get? s.heap.objs.size = some { cls := .type "tuple", data := .seq #[.int n tk, .str ⟨#[c]⟩ u] } := (sb.2 _ (Nat.ne_of_gt le)).trans hT
    have far : ∀ c, c ∉ [e, j] → ∀ o, s.heap.get? c = some o → g2.get? c = some o := fun c w o m => (sb.2 c fun z => w (by simp [z])).trans (hk c o (fun z => w (by simp [z])) (fun z => w (by simp [z])) m)
    have fresh : ObjOk X.prog X.w (upd H s.heap.objs.size (.tup [.int (n : Nat), .str ⟨#[c]⟩])) g2 s.heap.objs.size (.tup [.int (n : Nat), .str ⟨#[c]⟩]) :=
      ⟨Nat.le_trans (by decide : 2 ≤ 100000) (by decide), [.int n tk, .str ⟨#[c]⟩ u], .cons ⟨_, rfl⟩ (.cons ⟨_, rfl⟩ .nil), ⟨_, hT2, rfl, _, rfl⟩⟩
    have I2 : Inv X pins σ (upd H s.heap.objs.size (.tup [.int (n : Nat), .str ⟨#[c]⟩])) { s with heap := g2, toks := tk + 1 } :=
      I.turnedNew (t' := tk + 1) (ch := [e, j]) (fun c o w m => far c w o m) hf (Nat.le_refl _) fresh
    refine ⟨.ref s.heap.objs.size, _, I2, rfl, ⟨_, c, rfl, I.hok.fresh (Nat.le_refl _), hcz, rfl⟩, ⟨⟨.str ⟨#[c]⟩ u, ?_⟩, ?_⟩, fun c w => ?_⟩
    · have q1 : ((n + 1 : Nat) : Int) = (n : Int) + 1 := by omega
      rw [q1]
      exact he2
    · obtain ⟨u1, f1, c1, d1⟩ := st1
      exact ⟨u1, (sb.2 _ (Ne.symm ej)).trans f1, c1, d1⟩
    · have lt : c < s.heap.objs.size := by
        rcases two_of w with m | m <;> rw [m]
        · exact le
        · exact lj2
      rw [upd_ne (Nat.ne_of_lt lt)]
      exact (hf c w).1
  done := by
    intro X eP eW eK hc n pins s σ H E I hf st hg
    subst eP eW eK
    obtain ⟨⟨old, ge⟩, t1⟩ := st
    have hg : n = z.cps.size := hg
    subst hg
    have D1 := Draws.text (prog := X.prog) (w := X.w) (A := X.A.in1) (I.ok.hd hc) j z tt
    obtain ⟨f0, f1, f2, f3, f4, f5⟩ := hf j (by simp)
    refine wpAny_pyNext_enum_endD D1 ge t1 fun g1 eb => ⟨rfl, ?_⟩
    exact I.turned (t' := s.toks) (fun b o w m => eb b o w m) f0 f1 f3 f4 f5
  self := fun A n s Q E st q => by
    obtain ⟨⟨old, ge⟩, _⟩ := st
    exact wpAny_pyIter_enum ge q
def iEnumS (ta : TA) : TI := fun σ H R => ta σ H fun vs H1 => ∃ z, vs = [.str z] ∧ R (IteS z) H1
theorem pi_enumS {X : Cx} {e : Expr} {ta : TA} {p pos tp : Pos} {es : List Expr} {n0 : Nat} (hg : Gl X "enumerate") (hm : X.mg "enumerate" = none) (ha : PA X [e] ta) (hs : starEach [e] X.env = [(false, eval e X.env)] := by rfl) :
    PI X (.Tuple es n0 tp) (.Call (.Name "enumerate" p) [e] [] pos) (iEnumS ta) := by
  refine ⟨fun pins s σ H R I w => ?_⟩
  refine Call_ (ld_blt I hg hm boot_enumerate (PyProof.Rows.callWith_type1 (thn (ha.run pos pins s σ H _ I w) fun us s1 ⟨vs, H1, I1, r1, q1⟩ => ?_) hs rfl))
  obtain ⟨z, rfl, q⟩ := q1
  cases r1 with
  | cons c1 r1 =>
    cases r1
    obtain ⟨tt, rfl⟩ := c1
    have fresh : ∀ c, c ∈ [s1.heap.objs.size + 1, s1.heap.objs.size] → FpOk X pins H1 c := fun c w => by
      have le : s1.heap.objs.size ≤ c := by
        rcases two_of w with m | m <;> rw [m] <;> first | exact Nat.le_refl _ | exact Nat.le_add_right _ _
      exact I1.fpOk le (I1.hok.fresh le)
    refine call_enum1 (begins_text z tt) True.intro fun g he b1 _ hk => wpAny_pyIter_enum he ?_
    have I2 : Inv X pins σ H1 { s1 with heap := g } := I1.kept (t' := s1.toks) hk
    exact ⟨s1.heap.objs.size + 1, [s1.heap.objs.size + 1, s1.heap.objs.size], _, _, H1, rfl, I2, turnEnS (z := z) (tt := tt) (Nat.succ_ne_self _), ⟨⟨.none, he⟩, ⟨_, b1, rfl, rfl⟩⟩, fresh, q⟩
theorem walk_enumS {z : Str} : Walk (IteS z) z.length (fun _ => True) (YPair (fun i => some (.int (i : Nat))) (fun i => ((sg z).map fun c => V.str ⟨#[c]⟩)[i]?)) := by
  refine ⟨fun i _ hi q => hi, fun _ q => rfl, fun i H v H2 _ q y => ?_⟩
  obtain ⟨T, c, e1, e2, e3, e4⟩ := y
  refine ⟨T, .int (i : Nat), .str ⟨#[c]⟩, e1, e2, e4, rfl, ?_⟩
  show ((sg z).map fun c => V.str ⟨#[c]⟩)[i]? = _
  rw [List.getElem?_map]
  have : (sg z)[i]? = some c := by
    unfold sg
    rw [Array.getElem?_toList]
    exact e3
  rw [this]
  rfl
/-! methods of texts by names, for comprehensions -/
def r_strip : V → List V → Hp → VK → Prop := fun x xs H Q => ∃ a, x = .str a ∧ xs = [] ∧ a.length ≤ sizeLine ∧ Q (.str (Txt.strip a)) H
def r_lower : V → List V → Hp → VK → Prop := fun x xs H Q => ∃ a, x = .str a ∧ xs = [] ∧ a.length ≤ 5592405 ∧ Q (.str (Txt.lower a)) H
def r_partition : V → List V → Hp → VK → Prop := fun x xs H Q => ∃ a b, x = .str a ∧ xs = [.str b] ∧ (b.length == 0) = false ∧ a.length ≤ sizeLine ∧ ∀ p : Addr, H p = none → Q (.ref p) (upd H p (.tup [.str (Txt.partition a b).1, .str (Txt.partition a b).2.1, .str (Txt.partition a b).2.2]))
end Bm
namespace Bm
open PySem PySem.Spec PyProof.Rows L2
/-! pieces of texts -/
theorem cutS_eq (l : Tx) (lo hi : Option Int) : cutS (mk l) lo hi = mk ((l.drop (HT.sIx l.length 0 lo)).take (HT.sIx l.length l.length hi - HT.sIx l.length 0 lo)) := by
  unfold cutS
  have e : (mk l).cps.toList = l := sg_mk l
  rw [e, mk_len]
  rfl
theorem cutS_nat {l : Tx} {a b : Nat} : cutS (mk l) (some (a : Nat)) (some (b : Nat)) = mk ((l.drop a).take (b - a)) := by
  rw [cutS_eq, HT.sIx_nat, HT.sIx_nat]
  refine congrArg mk ?_
  by_cases h : a ≤ l.length
  · rw [Nat.min_eq_left h]
    by_cases g : b ≤ l.length
    · rw [Nat.min_eq_left g]
    · rw [Nat.min_eq_right (by omega), List.take_of_length_le (by rw [List.length_drop]; exact Nat.le_refl _), List.take_of_length_le (by rw [List.length_drop]; omega)]
  · have h1 : min a l.length = l.length := Nat.min_eq_right (by omega)
    rw [h1, List.drop_of_length_le (Nat.le_refl _), List.drop_of_length_le (show l.length ≤ a by omega)]
    simp
theorem cutS_from {l : Tx} {a : Nat} : cutS (mk l) (some (a : Nat)) none = mk (l.drop a) := by
  rw [cutS_eq, HT.sIx_nat]
  refine congrArg mk ?_
  show (l.drop (min a l.length)).take (l.length - min a l.length) = _
  by_cases h : a ≤ l.length
  · rw [Nat.min_eq_left h, List.take_of_length_le (by rw [List.length_drop]; exact Nat.le_refl _)]
  · rw [Nat.min_eq_right (by omega), List.drop_of_length_le (Nat.le_refl _), List.drop_of_length_le (by omega)]
    simp
theorem cutS_to {l : Tx} {b : Nat} : cutS (mk l) none (some (b : Nat)) = mk (l.take b) := by
  rw [cutS_eq, HT.sIx_nat]
  refine congrArg mk ?_
  show (l.drop 0).take (min b l.length - 0) = _
  rw [List.drop_zero, Nat.sub_zero]
  by_cases h : b ≤ l.length
  · rw [Nat.min_eq_left h]
  · rw [Nat.min_eq_right (by omega), List.take_length, List.take_of_length_le (by omega)]
theorem cutS_zero {l : Tx} {lo : Option Int} : cutS (mk l) lo (some (0 : Int)) = mk [] := by
  have e : (0 : Int) = ((0 : Nat) : Int) := rfl
  rw [cutS_eq, e, HT.sIx_nat, Nat.zero_min, Nat.zero_sub, List.take_zero]
theorem dec_str (l m : Tx) : decide (V.str (mk l) = V.str (mk m)) = decide (l = m) := decide_eq_decide.mpr ⟨fun h => mk_inj (V.str.inj h), fun h => by rw [h]⟩
theorem mk_one (c : Nat) : (⟨#[c]⟩ : Str) = mk [c] := rfl
theorem mk_toList (l : Tx) : (mk l).cps.toList = l := sg_mk l
theorem str_line {l : Tx} (h : l.length ≤ 50000) : (mk l).length ≤ sizeLine := by rw [mk_len]; exact line5 (by omega)
end Bm
namespace Bm
theorem itT {c : Bool} {A B : Prop} (h : c = true) (a : A) : if c = true then A else B := by rw [if_pos h]; exact a
theorem itF {c : Bool} {A B : Prop} (h : c = false) (b : B) : if c = true then A else B := by rw [if_neg (by rw [h]; exact Bool.false_ne_true)]; exact b
end Bm
namespace Bm
open PySem PySem.Spec PyProof.Rows L2
theorem sqT {t u : TS} {D : Ends} {σ : L2.St} {H : Hp} (h : t { D with nx := u D } σ H) : tSeq t u D σ H := h
theorem ifJ {c : TT} {a b : TS} {D : Ends} {σ : L2.St} {H : Hp} (P : L2.St → Hp → Prop) (h1 : ∀ σ' G, P σ' G → D.nx σ' G) (h2 : (∀ σ' G, P σ' G → D.nx σ' G) → tIfS c a b D σ H) : tIfS c a b D σ H := h2 h1
end Bm
namespace Bm
open PySem PySem.Spec PyProof.Rows L2
theorem tIfJ {t : TT} {ta tb : TE} {σ : L2.St} {H : Hp} {Q : VK} (P : V → Hp → Prop) (h1 : ∀ v G, P v G → Q v G) (h2 : (∀ v G, P v G → Q v G) → tIf t ta tb σ H Q) : tIf t ta tb σ H Q := h2 h1
end Bm
set_option maxHeartbeats 1000000
/-! figures -/
namespace Bm
open PySem PySem.Spec PyProof.Rows L2
def isFig (c : Nat) : Bool := decide (48 ≤ c) && decide (c ≤ 57)
def figV (c : Nat) : Nat := if c ≤ 57 then c - 48 else c - 87
def isFigB (b c : Nat) : Bool := (isFig c || (decide (97 ≤ c) && decide (c ≤ 102))) && decide (figV c < b)
def figN (b : Nat) (l : Tx) : Nat := l.foldl (fun n c => n * b + figV c) 0
end Bm
set_option maxHeartbeats 4000000
/-! int of a text of figures and a base -/
namespace Bm
open PySem PySem.Spec PyProof.Rows L2 PySem.NumText PySem.Calls
theorem fig_lt {b c : Nat} (h : isFigB b c = true) : (48 ≤ c ∧ c ≤ 57 ∨ 97 ≤ c ∧ c ≤ 102) ∧ figV c < b := by
  unfold isFigB isFig at h
  simp only [Bool.and_eq_true, Bool.or_eq_true, decide_eq_true_eq] at h
  exact h
theorem fig_digit {c : Nat} (h : 48 ≤ c ∧ c ≤ 57 ∨ 97 ≤ c ∧ c ≤ 102) : digit? c = some (figV c) := by
  unfold digit? figV
  rcases h with h | h
  · rw [if_pos (by simp [h.1, h.2]), if_pos h.2]
  · rw [if_neg (by simp; omega), if_pos (by simp; omega), if_neg (by omega)]
theorem fig_fold {b : Nat} : ∀ (l : Tx) (ds : Array Nat) (k : Bool), l.all (isFigB b) = true → l.foldlM (NumText.step b) (ds, k) = some (ds ++ (l.map figV).toArray, k || !l.isEmpty)
  | [], ds, k, _ => by simp
  | c :: l, ds, k, h => by
    rw [List.all_cons, Bool.and_eq_true] at h
    obtain ⟨h1, h2⟩ := fig_lt h.1
    have e : NumText.step b (ds, k) c = some (ds.push (figV c), true) := by
      unfold NumText.step
      rw [if_neg (by simp; omega), fig_digit h1]
      exact if_pos h2
    rw [List.foldlM_cons, e]
    show l.foldlM (NumText.step b) (ds.push (figV c), true) = _
    rw [fig_fold l _ true h.2]
    simp
theorem fig_digits {b : Nat} {l : Tx} (h : l.all (isFigB b) = true) (hn : l ≠ []) : digits? b l = some (l.map figV).toArray := by
  unfold digits?
  rw [fig_fold l _ _ h]
  cases l with
  | nil => exact absurd rfl hn
  | cons c l => simp
theorem fig_head {b : Nat} {l : Tx} (h : l.all (isFigB b) = true) (hb : b = 2 ∨ b = 10 ∨ b = 16) : l.dropWhile blank = l ∧ sign l = (false, l) ∧ based b l = (b, false, l) := by
  cases l with
  | nil =>
    refine ⟨rfl, rfl, ?_⟩
    rcases hb with rfl | rfl | rfl <;> rfl
  | cons c l =>
    rw [List.all_cons, Bool.and_eq_true] at h
    obtain ⟨h1, h2⟩ := fig_lt h.1
    refine ⟨?_, ?_, ?_⟩
    · rw [List.dropWhile_cons]
      have : blank c = false := by
        unfold blank
        simp
        omega
      rw [this]
      rfl
    · exact sign_of (by omega) (by omega)
    · have none_ : NumText.prefix? (c :: l) = none ∨ NumText.prefix? (c :: l) = some 2 ∧ b = 16 := by
        cases l with
        | nil => exact .inl (by unfold NumText.prefix?; split <;> simp_all)
        | cons d l =>
          have h' := h.2
          rw [List.all_cons, Bool.and_eq_true] at h'
          obtain ⟨h3, h4⟩ := fig_lt h'.1
          by_cases e : c = 48
          · subst e
            show (if (d == 120 || d == 88) = true then some 16 else if (d == 111 || d == 79) = true then some 8 else if (d == 98 || d == 66) = true then some 2 else none) = none ∨ (if (d == 120 || d == 88) = true then some 16 else if (d == 111 || d == 79) = true then some 8 else if (d == 98 || d == 66) = true then some 2 else none) = some 2 ∧ b = 16
            rw [if_neg (by simp; omega), if_neg (by simp; omega)]
            by_cases f : d = 98
            · subst f
              refine .inr ⟨rfl, ?_⟩
              have : figV 98 = 11 := rfl
              omega
            · exact .inl (if_neg (by simp; omega))
          · exact .inl (by unfold NumText.prefix?; split <;> simp_all)
      unfold based
      rcases none_ with e | ⟨e, f⟩
      · rw [e]
        rcases hb with rfl | rfl | rfl <;> rfl
      · rw [e, f]
        rfl
theorem fig_back {b : Nat} {l : Tx} (h : l.all (isFigB b) = true) : (l.reverse.dropWhile blank).reverse = l := by
  have e : l.reverse.dropWhile blank = l.reverse := by
    cases q : l.reverse with
    | nil => rfl
    | cons c r =>
      have hc : c ∈ l := List.mem_reverse.mp (by rw [q]; exact List.mem_cons_self ..)
      obtain ⟨h1, _⟩ := fig_lt (List.all_eq_true.mp h c hc)
      rw [List.dropWhile_cons]
      have : blank c = false := by
        unfold blank
        simp
        omega
      rw [this]
      rfl
  rw [e, List.reverse_reverse]
theorem fig_seen {b : Nat} {l : Tx} (h : l.all (isFigB b) = true) : l.takeWhile (· != 0) = l := tw_all fun x hx => bne_iff_ne.mpr fun z => by
  obtain ⟨h1, _⟩ := fig_lt (List.all_eq_true.mp h x hx)
  omega
theorem fig_read {b : Nat} {l : Tx} (h : l.all (isFigB b) = true) (hb : b = 2 ∨ b = 10 ∨ b = 16) (hn : l ≠ []) (hl : l.length ≤ 16) : (int_private% "readNumeral") 0 b l = (int_private% "Numeral.value") ((figN b l : Nat) : Int) := by
  obtain ⟨h1, h2, h3⟩ := fig_head h hb
  refine (readNumeral_eq 0 b l).trans ?_
  rw [h1, h2, h3]
  show judge 0 false b false (digits? b (l.reverse.dropWhile blank).reverse) = _
  rw [fig_back h, fig_digits h hn]
  unfold judge
  have s : (l.map figV).toArray.size = l.length := by simp
  have e1 : (![2, 4, 8, 16, 32].contains b && (0 : Nat) != 0 && decide ((l.map figV).toArray.size > 0)) = false := by simp
  have e2 : (b == 10 && decide ((l.map figV).toArray.size > 6000)) = false := by
    rw [s, decide_eq_false (by omega), Bool.and_false]
  have e3 : (l.map figV).toArray.foldl (fun acc d => acc * b + d) 0 = figN b l := by
    unfold figN
    rw [List.foldl_toArray, List.foldl_map]
  dsimp only
  rw [e1, e2, e3]
  rfl
theorem wp_textB {M : Model} {A : Around} {E : Value → Shared → Prop} {s : Shared} {Q : Value → Shared → Prop} {v : Value} {text : List Nat} {b : Nat} {n : Int}
    (hs : (text.takeWhile (· != 0)).length ≤ 640) (hr : (int_private% "readNumeral") 0 b (text.takeWhile (· != 0)) = (int_private% "Numeral.value") n)
    (ha : ((text.takeWhile (· != 0)).length == text.length) = true) (h : Q (.int n s.toks) { s with toks := s.toks + 1 }) :
    wpAny M A ((int_private% "intFromText") v text b) Q E s := by
  obtain ⟨hp, g, d, tk, os⟩ := s
  repeat (any_goals (first
    | assumption
    | (with_reducible refine wpAny_ite_true (decide_eq_true hs) ?_)
    | (with_reducible refine wpAny_ite_true (decide_eq_true ha) ?_)
    | wp_step))
  all_goals (try rw [hr])
  all_goals (try dsimp only)
  repeat (any_goals (first
    | assumption
    | (with_reducible refine wpAny_ite_true (decide_eq_true hs) ?_)
    | (with_reducible refine wpAny_ite_true (decide_eq_true ha) ?_)
    | wp_step))
theorem gives_textB {l : Tx} {u t : Tok} {b : Nat} (h : l.all (isFigB b) = true) (hb : b = 2 ∨ b = 10 ∨ b = 16) (hn : l ≠ []) (hl : l.length ≤ 16) : Gives (Builtin.«int.__new__» ⟨[.type "int", .str (mk l) u, .int (b : Nat) t], []⟩) (.int ((figN b l : Nat) : Int)) :=
  .of_wp fun M A E s Q hq => by
    obtain ⟨hp, g, d, tk, os⟩ := s
    have f1 := F.conv_sub_int
    have f2 := F.madeHere_int
    have f6 : typeOf (.str (mk l) u) = pure (.type "str") := rfl
    have asc : (mk l).cps.all (· < 128) = true := by
      rw [← Array.all_toList]
      have e : (mk l).cps.toList = l := sg_mk l
      rw [e, List.all_eq_true]
      intro x hx
      obtain ⟨h1, _⟩ := fig_lt (List.all_eq_true.mp h x hx)
      exact decide_eq_true (by omega)
    have el : (mk l).cps.toList = l := sg_mk l
    have sn := fig_seen h
    have hs : (l.takeWhile (· != 0)).length ≤ 640 := by rw [sn]; omega
    have hr : (int_private% "readNumeral") 0 b (l.takeWhile (· != 0)) = (int_private% "Numeral.value") ((figN b l : Nat) : Int) := by rw [sn]; exact fig_read h hb hn hl
    have ha : ((l.takeWhile (· != 0)).length == l.length) = true := by rw [sn]; exact beq_self_eq_true _
    rcases hb with rfl | rfl | rfl
    all_goals
      repeat (any_goals (first
        | assumption
        | (rw [asc])
        | (rw [el])
        | ((with_reducible show wpAny _ _ ((int_private% "intFromText") _ _ _) _ _ _); refine wp_textB hs hr ha ?_)
        | wp_step))
    all_goals first | exact ⟨_, rfl, hq⟩ | skip
theorem typeCall_int_2 (a b : Value) : checkTypeCall "int" ⟨[a, b], []⟩ = pure () := by kernel_rfl
theorem newCall_int_2 (a b : Value) : checkBuiltinCall "int.__new__" ⟨[.type "int", a, b], []⟩ = pure () := by kernel_rfl
theorem call_intB {X : Cx} : CallR X (.type "int") (fun xs H Q => ∃ (l : Tx) (b : Nat), xs = [.str (mk l), .int (b : Nat)] ∧ l.all (isFigB b) = true ∧ (b = 2 ∨ b = 10 ∨ b = 16) ∧ l ≠ [] ∧ l.length ≤ 16 ∧ Q (.int (figN b l : Nat)) H) := by
  intro pins s σ H xs us Q I rs h
  obtain ⟨l, b, rfl, h1, h2, h3, h4, q⟩ := h
  cases rs with
  | cons r1 rs =>
    cases rs with
    | cons r2 rs =>
      cases rs
      obtain ⟨u, rfl⟩ := r1
      obtain ⟨t, rfl⟩ := r2
      exact callType_new F.called_int F.newNe_int (typeCall_int_2 _ _) (newCall_int_2 _ _) (fun obj => F.args_object_init_3 obj _ _) F.entry_int_new (gives_textB h1 h2 h3 h4).meets
        (show (Made.int _).post _ s from ⟨rfl, ⟨.int (figN b l : Nat), _, I.tok (s.toks + 1), ⟨s.toks, rfl⟩, q⟩⟩)
end Bm
set_option maxHeartbeats 1000000
/-! rows of texts, told of their signs -/
namespace Bm
open PySem PySem.Spec PyProof.Rows L2
/-- small letters, but for those behind a ' -/
def lowdG : Nat → Tx → Tx
  | _, [] => []
  | p, c :: l => (if p = 39 then c else low1 c) :: lowdG c l
def lowd (l : Tx) : Tx := lowdG 0 l
theorem lowdG_cl : ∀ (l : Tx) (p : Nat), ClT l → ClT (lowdG p l)
  | [], _, _ => fun c hc => by cases hc
  | x :: l, p, h => fun c hc => by
    have hx := h x (List.mem_cons_self ..)
    rcases List.mem_cons.mp hc with rfl | hc
    · split
      · exact hx
      · exact low1_cl hx
    · exact lowdG_cl l x (fun y hy => h y (List.mem_cons_of_mem _ hy)) c hc
theorem lowd_cl {l : Tx} (h : ClT l) : ClT (lowd l) := lowdG_cl l 0 h
theorem lowdG_len : ∀ (l : Tx) (p : Nat), (lowdG p l).length = l.length
  | [], _ => rfl
  | x :: l, p => congrArg Nat.succ (lowdG_len l x)
theorem lowd_len (l : Tx) : (lowd l).length = l.length := lowdG_len l 0
theorem lowdG_at : ∀ (l : Tx) (p i : Nat), (lowdG p l)[i]? = (l[i]?).map fun c => if (if i = 0 then p else l.getD (i - 1) 0) = 39 then c else low1 c
  | [], _, _ => rfl
  | x :: l, p, 0 => rfl
  | x :: l, p, i + 1 => by
    show (lowdG x l)[i]? = (l[i]?).map _
    rw [lowdG_at l x i]
    refine congrArg (fun f => Option.map f l[i]?) (funext fun c => ?_)
    cases i with
    | zero => rfl
    | succ i => rfl
def isWs (c : Nat) : Bool := (decide (97 ≤ c) && decide (c ≤ 122)) || (decide (65 ≤ c) && decide (c ≤ 90)) || (decide (48 ≤ c) && decide (c ≤ 57)) || c == 46
/-- a row's word, what stands behind it -/
def wordRest (t : Tx) : Tx × Tx :=
  if ltrim isWs (stripT t) = stripT t then (stripT t, []) else ((stripT t).take ((stripT t).length - (ltrim isWs (stripT t)).length), stripT (ltrim isWs (stripT t)))
def partsT (r : Tx) : List Tx := if r = [] then [] else (splitT 44 r).map stripT
structure Rw where
  number : Nat
  label : Option Tx
  rest : Tx
  word : Tx
  texts : List Tx
  parts : List Tx
def bodyT (t : Tx) : Tx := if 58 ∈ t then behindT 58 t else t
def rowT (n : Nat) (t : Tx) : Rw :=
  ⟨n, if 58 ∈ t then some (lowd (stripT (aheadT 58 t))) else none, (wordRest (bodyT t)).2, lowd (wordRest (bodyT t)).1, partsT (wordRest (bodyT t)).2, (partsT (wordRest (bodyT t)).2).map lowd⟩
theorem wr_cl {t : Tx} (h : ClT t) : ClT (wordRest t).1 ∧ ClT (wordRest t).2 := by
  have cs := h.sub (stripT_sub t)
  unfold wordRest
  split
  · exact ⟨cs, fun c hc => by cases hc⟩
  · exact ⟨cs.sub fun c hc => List.mem_of_mem_take hc, (cs.sub (ltrim_sub isWs _)).sub (stripT_sub _)⟩
theorem wr_len (t : Tx) : (wordRest t).1.length ≤ t.length ∧ (wordRest t).2.length ≤ t.length := by
  have ls := stripT_len t
  unfold wordRest
  split
  · exact ⟨ls, Nat.zero_le _⟩
  · refine ⟨?_, Nat.le_trans (stripT_len _) (Nat.le_trans (ltrim_len _ _) ls)⟩
    show ((stripT t).take _).length ≤ _
    rw [List.length_take]
    omega
theorem parts_cl {r : Tx} (h : ClT r) : ∀ p ∈ partsT r, ClT p ∧ p.length ≤ r.length := fun p hp => by
  unfold partsT at hp
  split at hp
  · cases hp
  · obtain ⟨q, hq, rfl⟩ := List.mem_map.mp hp
    exact ⟨(h.sub fun c hc => (splitT_sub hq c hc).1).sub (stripT_sub q), Nat.le_trans (stripT_len q) (splitT_plen hq)⟩
theorem parts_len (r : Tx) : (partsT r).length ≤ r.length + 1 := by
  unfold partsT
  split
  · exact Nat.zero_le _
  · rw [List.length_map]
    exact splitT_len 44 r
theorem body_sub (t : Tx) : ∀ c ∈ bodyT t, c ∈ t := fun c hc => by
  unfold bodyT at hc
  split at hc
  · exact behind_sub 58 t c hc
  · exact hc
theorem body_len (t : Tx) : (bodyT t).length ≤ t.length := by
  unfold bodyT
  split
  · exact behind_len 58 t
  · exact Nat.le_refl _
/-- all but a last one of nothing -/
def butLast : List Tx → List Tx
  | [] => []
  | [a] => if a = [] then [] else [a]
  | a :: b :: r => a :: butLast (b :: r)
def rowsT (t : Tx) : List Tx := (butLast (splitT 10 t)).map fun r => stripT (aheadT 59 r)
theorem butLast_app (r : Tx) : ∀ rs : List Tx, butLast (rs ++ [r]) = if r = [] then rs else rs ++ [r]
  | [] => rfl
  | [a] => by
    show a :: butLast [r] = _
    unfold butLast
    split <;> rfl
  | a :: b :: rs => by
    show a :: butLast (b :: rs ++ [r]) = _
    rw [butLast_app r (b :: rs)]
    split <;> rfl
theorem butLast_sub : ∀ {ls : List Tx}, ∀ x ∈ butLast ls, x ∈ ls
  | [], x, h => h
  | [a], x, h => by
    unfold butLast at h
    split at h
    · cases h
    · exact h
  | a :: b :: r, x, h => by
    rcases List.mem_cons.mp (show x ∈ a :: butLast (b :: r) from h) with rfl | h
    · exact List.mem_cons_self ..
    · exact List.mem_cons_of_mem _ (butLast_sub x h)
theorem butLast_len : ∀ ls : List Tx, (butLast ls).length ≤ ls.length
  | [] => Nat.le_refl _
  | [a] => by
    unfold butLast
    split <;> simp
  | a :: b :: r => Nat.succ_le_succ (butLast_len (b :: r))
/-! names and numbers -/
def isLet (c : Nat) : Bool := decide (97 ≤ c) && decide (c ≤ 122)
def REGS : List Tx := [[114, 48], [114, 49], [114, 50], [114, 51], [114, 52], [114, 53], [114, 54], [114, 55]]
def HERE : Tx := [104, 101, 114, 101]
def isNm (l : Tx) : Bool := decide (1 ≤ l.length) && decide (l.length ≤ 8) && isLet (l.headD 0) && !decide (l = HERE) && !decide (l ∈ REGS) && l.all fun c => isLet c || isFig c
def figured (l : Tx) (b most : Nat) : Option Nat := if 1 ≤ l.length ∧ l.length ≤ most ∧ l.all (isFigB b) = true then some (figN b l) else none
def signN : Tx → Option Nat
  | [c] => if isLet (low1 c) = true then some c else none
  | _ => none
def numT (l : Tx) : Option Nat :=
  if startsT [39] l = true then signN (l.drop 1) else if startsT [48, 120] l = true then figured (l.drop 2) 16 4 else if startsT [48, 98] l = true then figured (l.drop 2) 2 16 else figured l 10 5
/-! sums -/
def isSg (c : Nat) : Bool := c == 43 || c == 45 || c == 42 || c == 38 || c == 124 || c == 94 || c == 60 || c == 62
/-- the pieces of a sum, each with its sign; acc what stands of the piece so far -/
def piecesG : Nat → Tx → Tx → List (Nat × Tx)
  | s, acc, [] => [(s, stripT acc)]
  | s, acc, c :: l => if isSg c = true then (s, stripT acc) :: piecesG c [] l else piecesG s (acc ++ [c]) l
def piecesT (l : Tx) : List (Nat × Tx) := if startsT [45] l = true then piecesG 45 [] (l.drop 1) else piecesG 43 [] l
inductive Rs (α : Type) where
  | ok (x : α)
  | bad (why : Str)
def worthT (nm : Tx → Option Int) (p : Tx) : Rs Int := match nm p with
  | some i => .ok i
  | none => if isNm p = true then .bad "name" else match numT p with
    | some n => .ok (n : Nat)
    | none => .bad "number"
noncomputable def sumS (c : Nat) (t o : Int) : Int :=
  if c = 43 then t + o else if c = 45 then t - o else if c = 42 then t * o else if c = 38 then Builtin.bitAnd t o else if c = 124 then Builtin.bitOr t o else if c = 94 then Builtin.bitXor t o else if c = 60 then t * 2 ^ o.toNat else t / 2 ^ o.toNat
noncomputable def onT (t : Int) (c : Nat) (o : Int) : Rs Int :=
  if (c = 60 ∨ c = 62) ∧ ¬ (0 ≤ o ∧ o ≤ 16) then .bad "number" else if -1000000000 ≤ sumS c t o ∧ sumS c t o ≤ 1000000000 then .ok (sumS c t o) else .bad "number"
noncomputable def sumG (nm : Tx → Option Int) : Int → List (Nat × Tx) → Rs Int
  | t, [] => .ok t
  | t, (c, p) :: r => match worthT nm p with
    | .bad y => .bad y
    | .ok o => match onT t c o with
      | .bad y => .bad y
      | .ok u => sumG nm u r
noncomputable def sumT (nm : Tx → Option Int) (l : Tx) (lo hi : Int) : Rs Int := match sumG nm 0 (piecesT l) with
  | .bad y => .bad y
  | .ok t => if lo ≤ t ∧ t ≤ hi then .ok t else .bad "number"
end Bm
set_option maxHeartbeats 400000
namespace Bm
open PySem PySem.Spec PyProof.Rows L2
section
variable {P : Program} {w : World} {K : PySem.W.Frag} {mg : Str → Option Value} {base : Heap} {f : Addr} {fd : FuncData} {dvs : List V}
abbrev FnP (K : PySem.W.Frag) (x : Str) (st : Stmt) (dvs : List V) (f : Addr) (fd : FuncData) : Prop := FunD K x x (defArgs st) (defBody st) (defScope st) dvs [] f fd
/-! fields -/
theorem or3 {f a b : Int} (hf : 0 ≤ f ∧ f < 16) (ha : 0 ≤ a ∧ a < 8) (hb : 0 ≤ b ∧ b < 8) : Builtin.bitOr (Builtin.bitOr (f * 2 ^ 12) (a * 2 ^ 9)) (b * 2 ^ 6) = f * 4096 + a * 512 + b * 64 := by
  have e0 : f * 2 ^ 12 = (f * 8) * 512 := by omega
  have e1 : Builtin.bitOr (f * 2 ^ 12) (a * 2 ^ 9) = f * 4096 + a * 512 := by
    have e := or_side (x := f) (y := a * 2 ^ 9) 12 (by omega) (by omega) (by omega)
    rw [e]
    omega
  rw [e1]
  have e2 : f * 4096 + a * 512 = (f * 8 + a) * 512 := by omega
  rw [e2, or9 (by omega) (by omega) (by omega)]
  omega
def spFields : Sp := fun vs H Q _ => ∃ f a b : Int, vs = [.int f, .int a, .int b] ∧ (0 ≤ f ∧ f < 16) ∧ (0 ≤ a ∧ a < 8) ∧ (0 ≤ b ∧ b < 8) ∧ Q (.int (f * 4096 + a * 512 + b * 64)) H
theorem sc_fields : FnScope ["form", "first", "second"] ["form", "first", "second"] (defScope s_fields) := ⟨rfl, rfl, rfl, by decide +kernel, rfl, by decide +kernel, by decide +kernel⟩
theorem cpow {i j : Int} (h : 0 ≤ i ∧ i < 65536) (hj : 0 ≤ j ∧ j ≤ 64) : 0 ≤ j ∧ j ≤ 1000000 ∧ i.natAbs < 2 ^ 64 := ⟨hj.1, by omega, by omega⟩
theorem ok_fields (F : FnP K "fields" s_fields dvs f fd) : FnOk P w K mg base CX0 1 f fd ["form", "first", "second"] spFields := by
  refine F.ok sc_fields (fun vs H Q E h => ?_) (fun cdv A outer s H vs Q E hr h => ?_)
  · obtain ⟨f, a, b, rfl, _⟩ := h
    rfl
  · obtain ⟨f, a, b, rfl, hf, ha, hb, q⟩ := h
    refine ⟨_, PSs.nox (pss_one (ps_ret (pe_op op_or (pe_op op_or (pe_op op_shl (pv 0) pe_int) (pe_op op_shl (pv 1) pe_int)) (pe_op op_shl (pv 2) pe_int)))), ?_⟩
    refine ⟨_, rfl, _, _, rfl, rfl, cpow (by omega) (by decide), _, rfl, _, _, rfl, rfl, cpow (by omega) (by decide), _, _, rfl, rfl, _, rfl, _, _, rfl, rfl, cpow (by omega) (by decide), _, _, rfl, rfl, ?_⟩
    have e := or3 hf ha hb
    show Q (.int (Builtin.bitOr (Builtin.bitOr (f * 2 ^ 12) (a * 2 ^ 9)) (b * 2 ^ 6))) H
    rw [e]
    exact q
abbrev KnF (P : Program) (w : World) (K : PySem.W.Frag) (mg : Str → Option Value) (base : Heap) (dvs : List V) : Prop := Kn P w K mg base CX0 1 "fields" ["form", "first", "second"] dvs spFields
/-! is_reached -/
def spReached : Sp := fun vs H Q _ => ∃ p g : Int, vs = [.int p, .int g] ∧ Q (.bl (decide (near g p))) H
abbrev N_is_reached : List Str := ["place", "goal"]
theorem sc_is_reached : FnScope ["place", "goal"] ["place", "goal"] (defScope s_is_reached) := ⟨rfl, rfl, rfl, by decide +kernel, rfl, by decide +kernel, by decide +kernel⟩
theorem ok_reached (F : FnP K "is_reached" s_is_reached dvs f fd) : FnOk P w K mg base CX0 1 f fd ["place", "goal"] spReached := by
  refine F.ok sc_is_reached (fun vs H Q E h => ?_) (fun cdv A outer s H vs Q E hr h => ?_)
  · obtain ⟨p, g, rfl, _⟩ := h
    rfl
  · obtain ⟨p, g, rfl, q⟩ := h
    refine ⟨_, PSs.nox (pss_one (ps_ret (pe_chain op_le op_le (pe_un un_neg pe_int) (pe_op op_sub (pe_op op_sub (pv 1) (pv 0)) pe_int) pe_int))), ?_⟩
    refine ⟨_, rfl, _, rfl, _, rfl, _, _, rfl, rfl, _, _, rfl, rfl, _, _, rfl, rfl, _, rfl, ?_⟩
    by_cases c1 : -16 ≤ g - p - 1
    · rw [decide_eq_true c1]
      refine iteT ⟨_, _, rfl, rfl, ?_⟩
      have e : decide (near g p) = decide (g - p - 1 ≤ 15) := decide_eq_decide.mpr ⟨fun h => h.2, fun h => ⟨c1, h⟩⟩
      rw [e] at q
      exact q
    · rw [decide_eq_false c1]
      have e : decide (near g p) = false := decide_eq_false fun h => c1 h.1
      rw [e] at q
      exact iteF q
abbrev KnRe (P : Program) (w : World) (K : PySem.W.Frag) (mg : Str → Option Value) (base : Heap) : Prop := Kn P w K mg base CX0 1 "is_reached" ["place", "goal"] [] spReached
/-! going_words -/
def spGoing : Sp := fun vs H Q _ => ∃ (nf k g : Int) (far : Bool) (p : Int), vs = [.int nf, .int k, .int g, .bl far, .int p] ∧ (0 ≤ nf ∧ nf < 15) ∧ (0 ≤ k ∧ k < 8) ∧
  (far = true → ∀ q H', Same H H' → H' q = some (.tup [.int ((nf + 1) * 4096 + k * 512), .int g]) → Q (.ref q) H') ∧
  (far = false → near g p → ∀ q H', Same H H' → H' q = some (.tup [.int (nf * 4096 + k * 512 + (g - p - 1) % 32)]) → Q (.ref q) H') ∧ (far = false → ¬ near g p → Q .non H)
abbrev N_going_words : List Str := ["near_form", "when", "goal", "far", "place"]
theorem sc_going_words : FnScope ["near_form", "when", "goal", "far", "place"] ["near_form", "when", "goal", "far", "place"] (defScope s_going_words) := ⟨rfl, rfl, rfl, by decide +kernel, rfl, by decide +kernel, by decide +kernel⟩
theorem ok_going (F : FnP K "going_words" s_going_words dvs f fd) (k_fields_2 : KnF P w K mg base [.int 0]) (k_is_reached : KnRe P w K mg base) : FnOk P w K mg base CX0 2 f fd ["near_form", "when", "goal", "far", "place"] spGoing := by
  refine F.ok sc_going_words (fun vs H Q E h => ?_) (fun cdv A outer s H vs Q E hr h => ?_)
  · obtain ⟨nf, k, g, far, p, rfl, _⟩ := h
    rfl
  · obtain ⟨nf, k, g, far, p, rfl, hf, hk, q1, q2, q3⟩ := h
    refine ⟨_, PSs.nox (pss_cons (ps_if (pt_val (pv 3)) (pss_one (ps_ret (pe_tup (pa_cons (pk k_fields_2 hr (by decide) rfl pass0 (pa_cons (pe_op op_add (pv 0) pe_int) (pa_cons (pv 1) pa_nil))) (pa_cons (pv 2) pa_nil))))) pss_nil)
      (pss_cons (ps_if (pt_not (pt_val (pk k_is_reached hr (by decide) rfl pass0 (pa_cons (pv 4) (pa_cons (pv 2) pa_nil))))) (pss_one (ps_ret pe_non)) pss_nil)
      (pss_one (ps_ret (pe_tup (pa_cons (pe_op op_or (pk k_fields_2 hr (by decide) rfl pass0 (pa_cons (pv 0) (pa_cons (pv 1) pa_nil))) (pe_op op_and (pe_op op_sub (pe_op op_sub (pv 2) (pv 4)) pe_int) pe_int)) pa_nil)))))), ?_⟩
    refine ⟨_, rfl, _, rfl, ?_⟩
    cases far with
    | true =>
      refine iteT ?_
      refine ⟨_, rfl, _, _, rfl, rfl, _, rfl, nf + 1, k, 0, rfl, by omega, by omega, by omega, _, rfl, line5 (by simp), laid fun q H1 _ e h1 => q1 rfl q H1 e ?_⟩
      rw [h1]
      have e : (nf + 1) * 4096 + k * 512 + 0 * 64 = (nf + 1) * 4096 + k * 512 := by omega
      rw [e]
    | false =>
      refine iteF ⟨_, rfl, _, rfl, p, g, rfl, _, rfl, ?_⟩
      by_cases c : near g p
      · rw [decide_eq_true c]
        refine iteF ?_
        refine ⟨_, rfl, _, rfl, nf, k, 0, rfl, by omega, by omega, by omega, _, rfl, _, rfl, _, _, rfl, rfl, _, _, rfl, rfl, _, _, rfl, rfl, _, _, rfl, rfl, line5 (by simp), laid fun q H1 _ e h1 => q2 rfl c q H1 e ?_⟩
        have e4 : Builtin.bitOr (nf * 4096 + k * 512 + 0 * 64) (Builtin.bitAnd (g - p - 1) 31) = nf * 4096 + k * 512 + (g - p - 1) % 32 := by
          have e2 : nf * 4096 + k * 512 + 0 * 64 = (nf * 64 + k * 8) * 64 := by omega
          rw [bitAnd_m5, e2, or6 (by omega) (by omega) (by omega)]
          omega
        exact h1.trans (congrArg (fun z => some (HO.tup [V.int z])) e4)
      · rw [decide_eq_false c]
        exact iteT (q3 rfl c)
end
end Bm
set_option maxHeartbeats 1000000
namespace Bm
open PySem PySem.Spec PyProof.Rows L2
section
variable {P : Program} {w : World} {K : PySem.W.Frag} {mg : Str → Option Value} {base : Heap} {f : Addr} {fd : FuncData} {dvs : List V}
def vTx (ls : List Tx) : List V := ls.map fun l => V.str (mk l)
theorem lineT {n : Nat} (h : n ≤ 200000) : n < sizeLine := Nat.lt_of_le_of_lt h (by decide)
theorem word_sign : ∀ c, c < 127 → (sg "abcdefghijklmnopqrstuvwxyzABCDEFGHIJKLMNOPQRSTUVWXYZ0123456789.").contains c = isWs c := by decide +kernel
theorem let_sign : ∀ c, c < 127 → decide (c ∈ ("abcdefghijklmnopqrstuvwxyz" : Str).cps.toList) = isLet c := by decide +kernel
theorem fig_sign : ∀ c, c < 127 → decide (c ∈ ("0123456789" : Str).cps.toList) = isFig c := by decide +kernel
theorem known_sign {b : Nat} (hb : b = 2 ∨ b = 10 ∨ b = 16) : ∀ c, c < 127 → decide (c ∈ (sg "0123456789abcdef").take b) = isFigB b c := by
  rcases hb with rfl | rfl | rfl <;> decide +kernel
theorem in_texts (l : Tx) : ∀ ls : List Tx, inV (V.str (mk l)) (vTx ls) = decide (l ∈ ls)
  | [] => rfl
  | m :: ls => by
    have ih := in_texts l ls
    unfold inV vTx at ih ⊢
    rw [List.map_cons, List.any_cons, ih]
    have e : eqV (V.str (mk m)) (V.str (mk l)) = decide (l = m) := by
      by_cases h : l = m
      · rw [h, decide_eq_true rfl]
        simp [eqV]
      · rw [decide_eq_false h]
        simp only [eqV]
        exact decide_eq_false fun z => h (mk_inj (by first | exact z.symm | exact (V.str.inj z).symm))
    rw [e]
    by_cases h : l = m <;> simp [h]
theorem ne_of_free {H : Hp} {a b : Addr} {o : HO} (h : H b = some o) (g : H a = none) : a ≠ b := fun z => by rw [z, h] at g; cases g
theorem free_of {H H' : Hp} {p : Addr} (e : Same H H') (h : H' p = none) : H p = none := by
  cases q : H p with
  | none => rfl
  | some o => rw [e _ _ q] at h; cases h
/-! lowered -/
def spTx (g : Tx → Tx) : Sp := fun vs H Q _ => ∃ l : Tx, vs = [.str (mk l)] ∧ ClT l ∧ l.length ≤ 50000 ∧ ∀ H', Same H H' → Q (.str (mk (g l))) H'
abbrev N_lowered : List Str := ["text", "at", "sign"]
theorem sc_lowered : FnScope ["text", "at", "sign"] ["text"] (defScope s_lowered) := ⟨rfl, rfl, rfl, by decide +kernel, rfl, by decide +kernel, by decide +kernel⟩
theorem ok_lowered (F : FnP K "lowered" s_lowered dvs f fd) (g_enumerate : mg "enumerate" = none) : FnOk P w K mg base CX0 1 f fd ["text"] (spTx lowd) := by
  refine F.ok sc_lowered (fun vs H Q E h => ?_) (fun cdv A outer s H vs Q E hr h => ?_)
  · obtain ⟨l, rfl, _⟩ := h
    rfl
  · obtain ⟨l, rfl, hc, hl, q⟩ := h
    refine ⟨_, PSs.nox (pss_one (ps_ret (pe_bm PySem.F.plainAttrs_str PySem.F.slot_str_join PySem.F.type_str_join mt_join pe_str (pa_cons (pe_lc (own := [("at", 1), ("sign", 2)]) (g := gTup K 2 (gCons (gName 1) (gCons (gName 2) (gNil)))) rfl sc_lowered.nd (pi_enumS rfl g_enumerate (pa_cons (pv 0) pa_nil)) (blkOk_by (own := [("at", 1), ("sign", 2)]) (N := N_lowered) (sc := defScope s_lowered) (by decide +kernel)) (fun _ _ _ _ _ => (pg_tup rfl (pgs_cons (pg_name (i := 1) sc_lowered.nd rfl (Or.inl rfl)) (pgs_cons (pg_name (i := 2) sc_lowered.nd rfl (Or.inl rfl)) pgs_nil)))) (fun _ _ _ _ _ => pts_nil) (fun _ _ _ _ _ => (pe_ifExp (pt_cmpR op_eq (pe_slice (show SlR _ (rSlS) from sl_str) (pv 0) (po_some (pe_op op_sub (pv 1) pe_int)) (po_some (pv 1))) pe_str (nomark _)) (pv 2) (show PE _ _ (tBM0 K "str" r_lower _) from pe_bm0 PySem.F.plainAttrs_str PySem.F.slot_str_lower PySem.F.type_str_lower mt_lower (pv 2))))) pa_nil)))), ?_⟩
    refine ⟨rfl, _, rfl, mk l, rfl, fun D hD => lc_it walk_enumS (fun i G => Same H G ∧ G D = some (.lst (((lowd l).take i).map fun c => V.str ⟨#[c]⟩))) ⟨Same.add hD, upd_same⟩ (fun _ _ _ _ => trivial) ?_ ?_⟩
    · rintro i x G G' hi ⟨k1, k2⟩ ⟨T, y, z, rfl, hT, rfl, hy, hz⟩
      have hz' : ((sg (mk l)).map fun c => V.str ⟨#[c]⟩)[i]? = some z := hz
      rw [sg_mk, List.getElem?_map] at hz'
      obtain ⟨c, hlc, rfl⟩ := Option.map_eq_some_iff.mp hz'
      obtain rfl : V.int (i : Nat) = y := Option.some.inj hy
      rw [mk_len] at hi
      have sT : Same G (upd G T (.tup [V.int (i : Nat), V.str ⟨#[c]⟩])) := Same.add hT
      have eT : (upd G T (.tup [V.int (i : Nat), V.str ⟨#[c]⟩])) T = some (.tup [V.int (i : Nat), V.str ⟨#[c]⟩]) := upd_same
      generalize upd G T (.tup [V.int (i : Nat), V.str ⟨#[c]⟩]) = G3 at sT eT ⊢
      have k3 := Same.trans k1 sT
      have kD := sT _ _ k2
      have ha := lowdG_at l 0 i
      rw [hlc] at ha
      have fin : ∀ d : Nat, (lowd l)[i]? = some d → ∃ acc, G3 D = some (.lst acc) ∧ acc.length < sizeLine ∧ Same H (upd G3 D (.lst (acc ++ [V.str (mk [d])]))) ∧ upd G3 D (.lst (acc ++ [V.str (mk [d])])) D = some (.lst (((lowd l).take (i + 1)).map fun c => V.str ⟨#[c]⟩)) := fun d hd => by
        refine ⟨_, kD, lineT (by rw [List.length_map]; have := List.length_take_le i (lowd l); omega), Same.mut k3 hD, ?_⟩
        rw [upd_same, List.take_add_one, hd, List.map_append]
        rfl
      refine ⟨T, _, rfl, SqT.of eT, rfl, _, _, rfl, _, _, rfl, rfl, rfl, ?_⟩
      refine ⟨_, rfl, _, rfl, _, _, rfl, rfl, _, rfl, _, rfl, _, rfl, mk l, rfl, str_line hl, rfl, _, rfl, ?_⟩
      have ek : cutS (mk l) (some ((i : Int) - 1)) (some (i : Int)) = mk (if i = 0 then [] else [l.getD (i - 1) 0]) := by
        by_cases c0 : i = 0
        · subst c0
          exact cutS_zero
        · rw [if_neg c0]
          have e1 : (i : Int) - 1 = ((i - 1 : Nat) : Int) := by omega
          rw [e1, cutS_nat, show i - (i - 1) = 1 by omega, List.drop_eq_getElem_cons (by omega)]
          rw [List.getD_eq_getElem?_getD, List.getElem?_eq_getElem (by omega)]
          rfl
      have e39 : ("'" : Str) = mk [39] := rfl
      rw [ek, e39, dec_str]
      have one_cl : ClT [c] := fun x hx => by
        rw [List.mem_singleton.mp hx]
        exact hc _ (List.mem_of_getElem? hlc)
      by_cases c1 : (if i = 0 then (0 : Nat) else l.getD (i - 1) 0) = 39
      · have c2 : (if i = 0 then ([] : Tx) else [l.getD (i - 1) 0]) = [39] := by
          by_cases c0 : i = 0
          · rw [if_pos c0] at c1
            cases c1
          · rw [if_neg c0] at c1 ⊢
            rw [c1]
        rw [decide_eq_true c2]
        refine iteT ⟨_, rfl, fin c ?_⟩
        refine ha.trans ?_
        show some (if _ then c else low1 c) = _
        rw [if_pos c1]
      · have c2 : (if i = 0 then ([] : Tx) else [l.getD (i - 1) 0]) ≠ [39] := fun z => by
          by_cases c0 : i = 0
          · rw [if_pos c0] at z
            cases z
          · rw [if_neg c0] at c1 z
            exact c1 (List.cons.inj z).1
        rw [decide_eq_false c2]
        refine iteF ⟨_, rfl, rfl, mk [c], rfl, rfl, by rw [mk_len]; simp, ?_⟩
        rw [lower_mk one_cl]
        refine fin (low1 c) ?_
        refine ha.trans ?_
        show some (if _ then c else low1 c) = _
        rw [if_neg c1]
    · rintro G ⟨k1, k2⟩
      have e : ("" : Str) = Str.empty := rfl
      rw [mk_len, ← lowd_len l, List.take_length] at k2
      have e2 : ((lowd l).map fun c => V.str ⟨#[c]⟩) = ((lowd l).map fun c => mk [c]).map V.str := by rw [List.map_map]; rfl
      have e3 : Txt.join Str.empty ((lowd l).map fun c => mk [c]) = mk (lowd l) := by
        have := join_empty_mk ((lowd l).map fun c => [c])
        rw [List.map_map] at this
        refine this.trans (congrArg mk ?_)
        generalize lowd l = m
        induction m with
        | nil => rfl
        | cons x m ih => rw [List.map_cons, List.flatten_cons, ih]; rfl
      rw [e2] at k2
      refine ⟨_, _, _, rfl, rfl, .inl (SqL.of k2), ?_, ?_⟩
      · have : ∀ m : Tx, ((m.map fun c => mk [c]).map fun x => x.length).sum = m.length := fun m => by
          induction m with
          | nil => rfl
          | cons x m ih => rw [List.map_cons, List.map_cons, List.sum_cons, ih, List.length_cons, mk_len]; simp; omega
        rw [this, lowd_len]
        show l.length + _ * 0 ≤ _
        omega
      · rw [e, e3]
        exact q _ k1
abbrev KnLow (P : Program) (w : World) (K : PySem.W.Frag) (mg : Str → Option Value) (base : Heap) : Prop := Kn P w K mg base CX0 1 "lowered" ["text"] [] (spTx lowd)
/-! word_and_rest -/
def spWr (K : PySem.W.Frag) : Sp := fun vs H Q _ => ∃ l : Tx, vs = [.str (mk l)] ∧ ClT l ∧ l.length ≤ 50000 ∧ ∀ p H', H p = none → Same H H' → SqT K H' p [.str (mk (wordRest l).1), .str (mk (wordRest l).2)] → Q (.ref p) H'
abbrev N_word_and_rest : List Str := ["text", "told", "rest"]
theorem sc_word_and_rest : FnScope ["text", "told", "rest"] ["text"] (defScope s_word_and_rest) := ⟨rfl, rfl, rfl, by decide +kernel, rfl, by decide +kernel, by decide +kernel⟩
theorem ok_wrest (F : FnP K "word_and_rest" s_word_and_rest dvs f fd) (g_WORD_SIGNS : ∃ t, mg "WORD_SIGNS" = some (.str "abcdefghijklmnopqrstuvwxyzABCDEFGHIJKLMNOPQRSTUVWXYZ0123456789." t)) (g_len : mg "len" = none) : FnOk P w K mg base CX0 1 f fd ["text"] (spWr K) := by
  obtain ⟨_, g_WORD_SIGNS⟩ := g_WORD_SIGNS
  refine F.ok sc_word_and_rest (fun vs H Q E h => ?_) (fun cdv A outer s H vs Q E hr h => ?_)
  · obtain ⟨l, rfl, _⟩ := h
    rfl
  · obtain ⟨l, rfl, hc, hl, q⟩ := h
    refine ⟨_, PSs.nox (pss_cons (ps_set (i := 1) sc_word_and_rest.nd rfl (Or.inl rfl) (pe_bm0 PySem.F.plainAttrs_str PySem.F.slot_str_strip PySem.F.type_str_strip mt_strip (pv 0)))
      (pss_cons (ps_set (i := 2) sc_word_and_rest.nd rfl (Or.inl rfl) (pe_bm PySem.F.plainAttrs_str PySem.F.slot_str_lstrip PySem.F.type_str_lstrip mt_lstripChars (pv 1) (pa_cons (pe_glob (v := .str "abcdefghijklmnopqrstuvwxyzABCDEFGHIJKLMNOPQRSTUVWXYZ0123456789.") rfl g_WORD_SIGNS ⟨_, rfl⟩) pa_nil)))
      (pss_cons (ps_if (pt_cmpR op_eq (pv 2) (pv 1) (nomark _)) (pss_one (ps_ret (pe_tup (pa_cons (pv 1) (pa_cons pe_str pa_nil))))) pss_nil)
      (pss_one (ps_ret (pe_tup (pa_cons (pe_slice sl_str (pv 1) po_none (po_some (pe_op op_sub (pe_callB call_len rfl g_len boot_len (pa_cons (pv 1) pa_nil)) (pe_callB call_len rfl g_len boot_len (pa_cons (pv 2) pa_nil))))) (pa_cons (pe_bm0 PySem.F.plainAttrs_str PySem.F.slot_str_strip PySem.F.type_str_strip mt_strip (pv 2)) pa_nil)))))))), ?_⟩
    have cs := hc.sub (stripT_sub l)
    have ls := stripT_len l
    refine ⟨_, rfl, rfl, _, rfl, rfl, str_line hl, ?_⟩
    rw [strip_mk hc]
    dsimp only [gName, List.set]
    refine ⟨_, rfl, rfl, _, _, rfl, rfl, str_line (by omega), ?_⟩
    have ew : ("abcdefghijklmnopqrstuvwxyzABCDEFGHIJKLMNOPQRSTUVWXYZ0123456789." : Str) = mk ((sg "abcdefghijklmnopqrstuvwxyzABCDEFGHIJKLMNOPQRSTUVWXYZ0123456789.")) := (mk_sg _).symm
    have ec : ltrim (sg "abcdefghijklmnopqrstuvwxyzABCDEFGHIJKLMNOPQRSTUVWXYZ0123456789.").contains (stripT l) = ltrim isWs (stripT l) := drop_eq _ fun c hc => by
      have := cs c hc
      exact word_sign c this.2
    rw [ew, lstripChars_mk, ec]
    dsimp only [gName, List.set]
    have cr := cs.sub (ltrim_sub isWs (stripT l))
    have lr := ltrim_len isWs (stripT l)
    refine ⟨_, rfl, _, rfl, rfl, _, rfl, ?_⟩
    rw [dec_str]
    have e0 : ("" : Str) = mk [] := rfl
    by_cases c : ltrim isWs (stripT l) = stripT l
    · rw [decide_eq_true c]
      refine iteT ⟨_, rfl, line5 (by simp), fun p hp => q p _ hp (Same.add hp) ?_⟩
      have : wordRest l = (stripT l, []) := if_pos c
      rw [this]
      exact SqT.of upd_same
    · rw [decide_eq_false c]
      have hw : wordRest l = ((stripT l).take ((stripT l).length - (ltrim isWs (stripT l)).length), stripT (ltrim isWs (stripT l))) := if_neg c
      refine iteF ⟨_, rfl, _, rfl, _, _, rfl, ⟨str_line (by omega), rfl⟩, _, rfl, _, _, rfl, ⟨str_line (by omega), rfl⟩, _, _, rfl, rfl, _, rfl, _, rfl, str_line (by omega), ?_⟩
      refine ⟨_, rfl, rfl, _, rfl, rfl, str_line (by omega), ?_⟩
      rw [strip_mk cr, mk_len, mk_len]
      have e1 : ((stripT l).length : Int) - ((ltrim isWs (stripT l)).length : Int) = (((stripT l).length - (ltrim isWs (stripT l)).length : Nat) : Int) := by omega
      rw [e1, cutS_to]
      refine ⟨line5 (by simp), fun p hp => q p _ hp (Same.add hp) ?_⟩
      rw [hw]
      exact SqT.of upd_same
abbrev KnWrt (P : Program) (w : World) (K : PySem.W.Frag) (mg : Str → Option Value) (base : Heap) : Prop := Kn P w K mg base CX0 1 "word_and_rest" ["text"] [] (spWr K)
/-! parts_of -/
def spParts : Sp := fun vs H Q _ => ∃ l : Tx, vs = [.str (mk l)] ∧ ClT l ∧ l.length ≤ 50000 ∧ ∀ p H', H p = none → Same H H' → H' p = some (.lst (vTx (partsT l))) → Q (.ref p) H'
abbrev N_parts_of : List Str := ["rest", "part"]
theorem sc_parts_of : FnScope ["rest", "part"] ["rest"] (defScope s_parts_of) := ⟨rfl, rfl, rfl, by decide +kernel, rfl, by decide +kernel, by decide +kernel⟩
theorem ok_parts (F : FnP K "parts_of" s_parts_of dvs f fd) : FnOk P w K mg base CX0 1 f fd ["rest"] spParts := by
  refine F.ok sc_parts_of (fun vs H Q E h => ?_) (fun cdv A outer s H vs Q E hr h => ?_)
  · obtain ⟨l, rfl, _⟩ := h
    rfl
  · obtain ⟨l, rfl, hc, hl, q⟩ := h
    refine ⟨_, PSs.nox (pss_cons (ps_if (pt_cmpR op_eq (pv 0) pe_str (nomark _)) (pss_one (ps_ret (pe_lst pa_nil))) pss_nil)
      (pss_one (ps_ret (pe_lc (own := [("part", 1)]) (g := gName 1) rfl sc_parts_of.nd (pi_list (pe_bm PySem.F.plainAttrs_str PySem.F.slot_str_split PySem.F.type_str_split mt_split (pv 0) (pa_cons pe_str pa_nil))) (blkOk_by (own := [("part", 1)]) (N := N_parts_of) (sc := defScope s_parts_of) (by decide +kernel)) (fun _ _ _ _ _ => (pg_name (i := 1) sc_parts_of.nd rfl (Or.inl rfl))) (fun _ _ _ _ _ => pts_nil) (fun _ _ _ _ _ => (show PE _ _ (tBM0 K "str" r_strip _) from pe_bm0 PySem.F.plainAttrs_str PySem.F.slot_str_strip PySem.F.type_str_strip mt_strip (pv 1))))))), ?_⟩
    have e0 : ("" : Str) = mk [] := rfl
    refine ⟨_, rfl, rfl, _, rfl, ?_⟩
    rw [e0, dec_str]
    by_cases c : l = []
    · rw [decide_eq_true c]
      refine iteT ⟨line5 (by simp), fun p hp => ?_⟩
      refine q p _ hp (Same.add hp) ?_
      rw [upd_same, c]
      rfl
    · rw [decide_eq_false c]
      have e44 : ("," : Str) = ⟨#[44]⟩ := rfl
      refine iteF ⟨_, rfl, rfl, mk l, _, rfl, rfl, rfl, by rw [mk_len]; exact line5 (by omega), fun p hp => ?_⟩
      rw [e44, split_mk]
      have s1 : Same H (upd H p (.lst (((splitT 44 l).map mk).map V.str))) := Same.add hp
      have e1 : (upd H p (.lst (((splitT 44 l).map mk).map V.str))) p = some (.lst (((splitT 44 l).map mk).map V.str)) := upd_same
      generalize upd H p (.lst (((splitT 44 l).map mk).map V.str)) = H1 at s1 e1 ⊢
      have hv : ((splitT 44 l).map mk).map V.str = vTx (splitT 44 l) := by rw [List.map_map]; rfl
      rw [hv] at e1
      have hn := splitT_len 44 l
      refine ⟨p, rfl, ⟨_, SqL.of e1⟩, fun D hD => lc_it walk_list (fun i G => Same H1 G ∧ G D = some (.lst (vTx (((splitT 44 l).take i).map stripT)))) ⟨Same.add hD, upd_same⟩ (fun _ _ _ k => SqL.of (k.1 _ _ e1)) ?_ ?_⟩
      · rintro i x G G' hi ⟨k1, k2⟩ ⟨rfl, hx⟩
        unfold vTx at hx hi
        rw [List.getElem?_map] at hx
        obtain ⟨z, hz, rfl⟩ := Option.map_eq_some_iff.mp hx
        rw [List.length_map] at hi
        have hm := List.mem_of_getElem? hz
        have hl2 := splitT_plen hm
        refine ⟨rfl, _, rfl, rfl, mk z, rfl, rfl, str_line (by omega), ?_⟩
        rw [strip_mk (hc.sub fun c h => (splitT_sub hm c h).1)]
        refine ⟨_, k2, lineT (by unfold vTx; rw [List.length_map, List.length_map, List.length_take]; omega), Same.mut k1 hD, ?_⟩
        rw [upd_same, List.take_add_one, hz, List.map_append]
        unfold vTx
        rw [List.map_append]
        rfl
      · rintro G ⟨k1, k2⟩
        refine q _ _ (free_of s1 hD) (Same.trans s1 k1) ?_
        unfold vTx at k2
        rw [List.length_map, List.take_length] at k2
        unfold partsT
        rw [if_neg c]
        exact k2
abbrev KnParts (P : Program) (w : World) (K : PySem.W.Frag) (mg : Str → Option Value) (base : Heap) : Prop := Kn P w K mg base CX0 1 "parts_of" ["rest"] [] spParts
/-! sign_number, figured, number_of -/
def vNo : Option Nat → V
  | none => .non
  | some n => .int (n : Nat)
def spNo (g : Tx → Option Nat) : Sp := fun vs H Q _ => ∃ l : Tx, vs = [.str (mk l)] ∧ ClT l ∧ l.length ≤ 50000 ∧ ∀ H', Same H H' → Q (vNo (g l)) H'
abbrev N_sign_number : List Str := ["text"]
theorem sc_sign_number : FnScope ["text"] ["text"] (defScope s_sign_number) := ⟨rfl, rfl, rfl, by decide +kernel, rfl, by decide +kernel, by decide +kernel⟩
theorem ok_signno (F : FnP K "sign_number" s_sign_number dvs f fd) (g_LETTERS : ∃ t, mg "LETTERS" = some (.str "abcdefghijklmnopqrstuvwxyz" t)) (g_len : mg "len" = none) (g_ord : mg "ord" = none) : FnOk P w K mg base CX0 1 f fd ["text"] (spNo signN) := by
  obtain ⟨_, g_LETTERS⟩ := g_LETTERS
  refine F.ok sc_sign_number (fun vs H Q E h => ?_) (fun cdv A outer s H vs Q E hr h => ?_)
  · obtain ⟨l, rfl, _⟩ := h
    rfl
  · obtain ⟨l, rfl, hc, hl, q⟩ := h
    refine ⟨_, PSs.nox (pss_cons (ps_if (PW.pt (pw_or (pt_cmpR op_ne (pe_callB call_len rfl g_len boot_len (pa_cons (pv 0) pa_nil)) pe_int (nomark _)) (pw_or1 (pt_cmpR op_notIn_str (pe_bm0 PySem.F.plainAttrs_str PySem.F.slot_str_lower PySem.F.type_str_lower mt_lower (pv 0)) (pe_glob (v := .str "abcdefghijklmnopqrstuvwxyz") rfl g_LETTERS ⟨_, rfl⟩) rfl)))) (pss_one (ps_ret pe_non)) pss_nil)
      (pss_one (ps_ret (pe_callB call_ord rfl g_ord (by decide +kernel) (pa_cons (pv 0) pa_nil))))), ?_⟩
    refine ⟨_, rfl, _, _, rfl, ⟨str_line hl, rfl⟩, rfl, _, rfl, ?_⟩
    rw [mk_len]
    have no : ∀ l : Tx, l.length ≠ 1 → signN l = none := fun l h => by
      match l, h with
      | [], _ => rfl
      | [c], h => exact absurd rfl h
      | _ :: _ :: _, _ => rfl
    by_cases c : l.length = 1
    · obtain ⟨x, rfl⟩ := List.length_eq_one_iff.mp c
      refine itF (by rw [c]; exact congrArg Bool.not (decide_eq_true rfl)) ⟨_, rfl, rfl, _, rfl, rfl, by rw [mk_len]; omega, ?_⟩
      have hx := hc x (List.mem_singleton.mpr rfl)
      have hx2 := low1_cl hx
      rw [lower_mk hc]
      have e1 : mk (lowT [x]) = ⟨#[low1 x]⟩ := rfl
      rw [e1]
      refine ⟨_, _, rfl, rfl, _, rfl, ?_⟩
      rw [StrLaws.found_one, let_sign (low1 x) hx2.2]
      have hs : signN [x] = if isLet (low1 x) = true then some x else none := rfl
      rw [hs] at q
      cases hlet : isLet (low1 x) with
      | true =>
        rw [if_pos hlet] at q
        refine itF rfl ⟨_, rfl, _, rfl, by rw [mk_len]; rfl, ?_⟩
        exact q _ (Same.refl _)
      | false =>
        rw [if_neg (by rw [hlet]; exact Bool.false_ne_true)] at q
        exact itT rfl (q _ (Same.refl _))
    · refine itT (by rw [decide_eq_false (fun z => c (by have := V.int.inj z; omega))]; rfl) ?_
      have := q H (Same.refl _)
      rw [no l c] at this
      exact iteT this
abbrev KnSignNo (P : Program) (w : World) (K : PySem.W.Frag) (mg : Str → Option Value) (base : Heap) : Prop := Kn P w K mg base CX0 1 "sign_number" ["text"] [] (spNo signN)
def spFig : Sp := fun vs H Q _ => ∃ (l : Tx) (b m : Nat), vs = [.str (mk l), .int (b : Nat), .int (m : Nat)] ∧ ClT l ∧ l.length ≤ 50000 ∧ (b = 2 ∨ b = 10 ∨ b = 16) ∧ m ≤ 16 ∧ ∀ H', Same H H' → Q (vNo (figured l b m)) H'
abbrev N_figured : List Str := ["figures", "base", "most", "known", "figure"]
theorem sc_figured : FnScope ["figures", "base", "most", "known", "figure"] ["figures", "base", "most"] (defScope s_figured) := ⟨rfl, rfl, rfl, by decide +kernel, rfl, by decide +kernel, by decide +kernel⟩
theorem ok_figured (F : FnP K "figured" s_figured dvs f fd) (g_len : mg "len" = none) (g_all : mg "all" = none) (g_int : mg "int" = none) : FnOk P w K mg base CX0 1 f fd ["figures", "base", "most"] spFig := by
  refine F.ok sc_figured (fun vs H Q E h => ?_) (fun cdv A outer s H vs Q E hr h => ?_)
  · obtain ⟨l, b, m, rfl, _⟩ := h
    rfl
  · obtain ⟨l, b, m, rfl, hc, hl, hb, hm, q⟩ := h
    refine ⟨_, PSs.nox (pss_cons (ps_set (i := 3) sc_figured.nd rfl (Or.inr rfl) (pe_slice sl_str pe_str po_none (po_some (pv 1))))
      (pss_cons (ps_if (PW.pt (pw_or (pt_not (pt_chain op_le op_le pe_int (pe_callB call_len rfl g_len boot_len (pa_cons (pv 0) pa_nil)) (pv 2))) (pw_or1 (pt_not (pt_val (pe_callB (cr_all rfl) rfl g_all (by decide +kernel) (pa_cons (pe_lc (own := [("figure", 4)]) (g := gName 4) rfl sc_figured.nd (pi_str (pv 0)) (blkOk_by (own := [("figure", 4)]) (N := N_figured) (sc := defScope s_figured) (by decide +kernel)) (fun _ _ _ _ _ => (pg_name (i := 4) sc_figured.nd rfl (Or.inl rfl))) (fun _ _ _ _ _ => pts_nil) (fun _ _ _ _ _ => (pe_cmpR op_in_sign (pv 4) (pv 3) rfl))) pa_nil))))))) (pss_one (ps_ret pe_non)) pss_nil)
      (pss_one (ps_ret (pe_callTy call_intB rfl g_int (by decide +kernel) (pa_cons (pv 0) (pa_cons (pv 1) pa_nil))))))), ?_⟩
    have e16 : ("0123456789abcdef" : Str) = mk (sg "0123456789abcdef") := (mk_sg _).symm
    refine ⟨_, rfl, _, rfl, mk (sg "0123456789abcdef"), e16 ▸ rfl, by decide +kernel, ?_⟩
    rw [cutS_to]
    dsimp only [gName, List.set]
    refine ⟨_, rfl, _, _, rfl, ⟨str_line hl, rfl⟩, _, _, rfl, rfl, _, rfl, ?_⟩
    rw [mk_len]
    have qn : ¬ (1 ≤ l.length ∧ l.length ≤ m ∧ l.all (isFigB b) = true) → Q .non H := fun h => by
      have := q H (Same.refl _)
      unfold figured at this
      rw [if_neg h] at this
      exact this
    by_cases cA : (1 : Int) ≤ (l.length : Int)
    · rw [decide_eq_true cA]
      refine iteT ⟨_, rfl, _, _, rfl, rfl, _, rfl, ?_⟩
      by_cases cB : (l.length : Int) ≤ (m : Int)
      · rw [decide_eq_true cB]
        refine itF rfl ?_
        refine ⟨_, rfl, mk l, rfl, fun D hD => lc_it walk_str (fun i G => Same H G ∧ G D = some (.lst (((l.take i).map (isFigB b)).map V.bl))) ⟨Same.add hD, upd_same⟩ (fun _ _ _ _ => trivial) ?_ ?_⟩
        · rintro i x G G' hi ⟨k1, k2⟩ ⟨rfl, c, hcz, rfl⟩
          have hlc : l[i]? = some c := by
            rw [← Array.getElem?_toList, mk_toList] at hcz
            exact hcz
          have c127 := (hc c (List.mem_of_getElem? hlc)).2
          refine ⟨rfl, _, rfl, _, rfl, c, _, rfl, rfl, ?_⟩
          have hil : i < l.length := (List.getElem?_eq_some_iff.mp hlc).1
          refine ⟨_, k2, lineT (by rw [List.length_map, List.length_map, List.length_take]; omega), Same.mut k1 hD, ?_⟩
          rw [upd_same, mk_toList, known_sign hb c c127, List.take_add_one, hlc, List.map_append, List.map_append]
          rfl
        · rintro G ⟨k1, k2⟩
          have hz : (mk l).cps.size = l.length := mk_len l
          rw [hz, List.take_length] at k2
          refine ⟨D, l.map (isFigB b), rfl, SqL.of k2, _, rfl, ?_⟩
          rw [List.all_map]
          have hall : l.all (id ∘ isFigB b) = l.all (isFigB b) := rfl
          rw [hall]
          cases ha : l.all (isFigB b) with
          | true =>
            have qy := q G k1
            unfold figured at qy
            rw [if_pos ⟨by omega, by omega, ha⟩] at qy
            refine itF rfl ⟨_, rfl, _, rfl, l, b, rfl, ha, hb, fun z => by rw [z] at cA; simp at cA, by omega, qy⟩
          | false =>
            have qy := q G k1
            unfold figured at qy
            rw [if_neg fun h => by rw [ha] at h; exact Bool.false_ne_true h.2.2] at qy
            exact itT rfl qy
      · rw [decide_eq_false cB]
        exact itT rfl (qn fun h => cB (by omega))
    · rw [decide_eq_false cA]
      exact iteF ⟨_, rfl, itT rfl (qn fun h => cA (by omega))⟩
abbrev KnFig (P : Program) (w : World) (K : PySem.W.Frag) (mg : Str → Option Value) (base : Heap) : Prop := Kn P w K mg base CX0 1 "figured" ["figures", "base", "most"] [] spFig
abbrev N_number_of : List Str := ["text"]
theorem sc_number_of : FnScope ["text"] ["text"] (defScope s_number_of) := ⟨rfl, rfl, rfl, by decide +kernel, rfl, by decide +kernel, by decide +kernel⟩
theorem ok_numof (F : FnP K "number_of" s_number_of dvs f fd) (k_sign_number : KnSignNo P w K mg base) (k_figured : KnFig P w K mg base) : FnOk P w K mg base CX0 2 f fd ["text"] (spNo numT) := by
  refine F.ok sc_number_of (fun vs H Q E h => ?_) (fun cdv A outer s H vs Q E hr h => ?_)
  · obtain ⟨l, rfl, _⟩ := h
    rfl
  · obtain ⟨l, rfl, hc, hl, q⟩ := h
    refine ⟨_, PSs.nox (pss_cons (ps_if (pt_val (pe_bm PySem.F.plainAttrs_str PySem.F.slot_str_startswith PySem.F.type_str_startswith mt_startswith (pv 0) (pa_cons pe_str pa_nil))) (pss_one (ps_ret (pk k_sign_number hr (by decide) rfl pass0 (pa_cons (pe_slice sl_str (pv 0) (po_some pe_int) po_none) pa_nil)))) pss_nil)
      (pss_cons (ps_if (pt_val (pe_bm PySem.F.plainAttrs_str PySem.F.slot_str_startswith PySem.F.type_str_startswith mt_startswith (pv 0) (pa_cons pe_str pa_nil))) (pss_one (ps_ret (pk k_figured hr (by decide) rfl pass0 (pa_cons (pe_slice sl_str (pv 0) (po_some pe_int) po_none) (pa_cons pe_int (pa_cons pe_int pa_nil)))))) pss_nil)
      (pss_cons (ps_if (pt_val (pe_bm PySem.F.plainAttrs_str PySem.F.slot_str_startswith PySem.F.type_str_startswith mt_startswith (pv 0) (pa_cons pe_str pa_nil))) (pss_one (ps_ret (pk k_figured hr (by decide) rfl pass0 (pa_cons (pe_slice sl_str (pv 0) (po_some pe_int) po_none) (pa_cons pe_int (pa_cons pe_int pa_nil)))))) pss_nil)
      (pss_one (ps_ret (pk k_figured hr (by decide) rfl pass0 (pa_cons (pv 0) (pa_cons pe_int (pa_cons pe_int pa_nil))))))))), ?_⟩
    have e1 : ("'" : Str) = mk [39] := rfl
    have e2 : ("0x" : Str) = mk [48, 120] := rfl
    have e3 : ("0b" : Str) = mk [48, 98] := rfl
    have hd : ∀ n, ClT (l.drop n) ∧ (l.drop n).length ≤ 50000 := fun n => ⟨hc.sub fun c h => List.mem_of_mem_drop h, by rw [List.length_drop]; omega⟩
    refine ⟨_, rfl, rfl, _, _, rfl, rfl, _, rfl, ?_⟩
    rw [e1, starts_mk]
    unfold numT at q
    cases h1 : startsT [39] l with
    | true =>
      rw [if_pos h1] at q
      refine iteT ⟨_, rfl, _, rfl, mk l, rfl, str_line hl, l.drop 1, congrArg (fun z => [V.str z]) (cutS_from (a := 1)), (hd 1).1, (hd 1).2, q⟩
    | false =>
      rw [if_neg (by rw [h1]; exact Bool.false_ne_true)] at q
      refine iteF ⟨_, rfl, rfl, _, _, rfl, rfl, _, rfl, ?_⟩
      rw [e2, starts_mk]
      cases h2 : startsT [48, 120] l with
      | true =>
        rw [if_pos h2] at q
        refine iteT ⟨_, rfl, _, rfl, mk l, rfl, str_line hl, l.drop 2, 16, 4, congrArg (fun z => [V.str z, V.int 16, V.int 4]) (cutS_from (a := 2)), (hd 2).1, (hd 2).2, by decide, by decide, q⟩
      | false =>
        rw [if_neg (by rw [h2]; exact Bool.false_ne_true)] at q
        refine iteF ⟨_, rfl, rfl, _, _, rfl, rfl, _, rfl, ?_⟩
        rw [e3, starts_mk]
        cases h3 : startsT [48, 98] l with
        | true =>
          rw [if_pos h3] at q
          refine iteT ⟨_, rfl, _, rfl, mk l, rfl, str_line hl, l.drop 2, 2, 16, congrArg (fun z => [V.str z, V.int 2, V.int 16]) (cutS_from (a := 2)), (hd 2).1, (hd 2).2, by decide, by decide, q⟩
        | false =>
          rw [if_neg (by rw [h3]; exact Bool.false_ne_true)] at q
          exact iteF ⟨_, rfl, l, 10, 5, rfl, hc, hl, by decide, by decide, q⟩
abbrev KnNumOf (P : Program) (w : World) (K : PySem.W.Frag) (mg : Str → Option Value) (base : Heap) : Prop := Kn P w K mg base CX0 2 "number_of" ["text"] [] (spNo numT)
/-! is_name -/
def spNm : Sp := fun vs H Q _ => ∃ l : Tx, vs = [.str (mk l)] ∧ ClT l ∧ l.length ≤ 50000 ∧ ∀ H', Same H H' → Q (.bl (isNm l)) H'
abbrev N_is_name : List Str := ["text", "sign"]
theorem sc_is_name : FnScope ["text", "sign"] ["text"] (defScope s_is_name) := ⟨rfl, rfl, rfl, by decide +kernel, rfl, by decide +kernel, by decide +kernel⟩
theorem ok_isname (F : FnP K "is_name" s_is_name dvs f fd) (g_LETTERS : ∃ t, mg "LETTERS" = some (.str "abcdefghijklmnopqrstuvwxyz" t)) (g_FIGURES : ∃ t, mg "FIGURES" = some (.str "0123456789" t)) (g_NAME_MOST : ∃ t, mg "NAME_MOST" = some (.int 8 t)) (g_REGISTERS : mg "REGISTERS" = some (.ref (He.ga K "REGISTERS")))
    (regs : ∀ H, SqT K H (He.ga K "REGISTERS") (vTx REGS) ∧ tyV K "tuple" (.ref (He.ga K "REGISTERS")) H) (g_len : mg "len" = none) (g_all : mg "all" = none) : FnOk P w K mg base CX0 1 f fd ["text"] spNm := by
  obtain ⟨_, g_LETTERS⟩ := g_LETTERS
  obtain ⟨_, g_FIGURES⟩ := g_FIGURES
  obtain ⟨_, g_NAME_MOST⟩ := g_NAME_MOST
  refine F.ok sc_is_name (fun vs H Q E h => ?_) (fun cdv A outer s H vs Q E hr h => ?_)
  · obtain ⟨l, rfl, _⟩ := h
    rfl
  · obtain ⟨l, rfl, hc, hl, q⟩ := h
    refine ⟨_, PSs.nox (pss_cons (ps_if (PW.pt (pw_or (pt_not (pt_chain op_le op_le pe_int (pe_callB call_len rfl g_len boot_len (pa_cons (pv 0) pa_nil)) (pe_glob (v := .int 8) rfl g_NAME_MOST ⟨_, rfl⟩))) (pw_or1 (pt_cmpR op_notIn_sign (pe_ix ix_str (pv 0) pe_int (fun _ _ => rfl)) (pe_glob (v := .str "abcdefghijklmnopqrstuvwxyz") rfl g_LETTERS ⟨_, rfl⟩) rfl)))) (pss_one (ps_ret pe_bl)) pss_nil)
      (pss_cons (ps_if (PW.pt (pw_or (pt_cmpR op_eq (pv 0) pe_str (nomark _)) (pw_or1 (pt_cmpR op_in_seq (pv 0) (pe_glob (v := .ref (He.ga K "REGISTERS")) rfl g_REGISTERS rfl) rfl)))) (pss_one (ps_ret pe_bl)) pss_nil)
      (pss_one (ps_ret (pe_callB (cr_all rfl) rfl g_all (by decide +kernel) (pa_cons (pe_lc (own := [("sign", 1)]) (g := gName 1) rfl sc_is_name.nd (pi_str (pv 0)) (blkOk_by (own := [("sign", 1)]) (N := N_is_name) (sc := defScope s_is_name) (by decide +kernel)) (fun _ _ _ _ _ => (pg_name (i := 1) sc_is_name.nd rfl (Or.inl rfl))) (fun _ _ _ _ _ => pts_nil) (fun _ _ _ _ _ => (pe_or (pe_cmpR op_in_sign (pv 1) (pe_glob (v := .str "abcdefghijklmnopqrstuvwxyz") rfl g_LETTERS ⟨_, rfl⟩) rfl) (pe_one (pe_cmpR op_in_sign (pv 1) (pe_glob (v := .str "0123456789") rfl g_FIGURES ⟨_, rfl⟩) rfl))))) pa_nil)))))), ?_⟩
    have qn : isNm l = false → Q (.bl false) H := fun h => by
      have := q H (Same.refl _)
      rwa [h] at this
    have e104 : ("here" : Str) = mk HERE := rfl
    refine ⟨_, rfl, _, _, rfl, ⟨str_line hl, rfl⟩, _, _, rfl, rfl, _, rfl, ?_⟩
    rw [mk_len]
    by_cases cA : (1 : Int) ≤ (l.length : Int)
    · rw [decide_eq_true cA]
      refine iteT ⟨_, _, rfl, rfl, _, rfl, ?_⟩
      by_cases cB : (l.length : Int) ≤ 8
      · rw [decide_eq_true cB]
        refine itF rfl ?_
        obtain ⟨x, r, rfl⟩ : ∃ x r, l = x :: r := by
          cases l with
          | nil => simp at cA
          | cons x r => exact ⟨x, r, rfl⟩
        have hx := hc x (List.mem_cons_self ..)
        refine ⟨_, rfl, mk (x :: r), 0, x, rfl, rfl, str_line hl, by rw [mk_toList]; exact atI_nat (j := 0) rfl, x, _, rfl, rfl, _, rfl, ?_⟩
        rw [let_sign x hx.2]
        cases hl1 : isLet x with
        | false =>
          exact iteT (qn (by unfold isNm; rw [show (x :: r).headD 0 = x from rfl, hl1]; simp))
        | true =>
          refine iteF ⟨_, rfl, rfl, _, rfl, ?_⟩
          rw [e104, dec_str]
          by_cases ch : x :: r = HERE
          · rw [decide_eq_true ch]
            exact iteT (qn (by unfold isNm; rw [decide_eq_true ch]; simp))
          · rw [decide_eq_false ch]
            refine iteF ⟨_, rfl, He.ga K "REGISTERS", _, rfl, .inr (regs H).1, rfl, rfl, _, rfl, ?_⟩
            rw [if_neg Bool.false_ne_true, in_texts]
            by_cases cr : x :: r ∈ REGS
            · rw [decide_eq_true cr]
              exact iteT (qn (by unfold isNm; rw [decide_eq_true cr]; simp))
            · rw [decide_eq_false cr]
              refine iteF ?_
              refine ⟨_, rfl, mk (x :: r), rfl, fun D hD => lc_it walk_str (fun i G => Same H G ∧ G D = some (.lst ((((x :: r).take i).map fun c => isLet c || isFig c).map V.bl))) ⟨Same.add hD, upd_same⟩ (fun _ _ _ _ => trivial) ?_ ?_⟩
              · rintro i y G G' hi ⟨k1, k2⟩ ⟨rfl, c, hcz, rfl⟩
                have hlc : (x :: r)[i]? = some c := by
                  rw [← Array.getElem?_toList, mk_toList] at hcz
                  exact hcz
                have c127 := (hc c (List.mem_of_getElem? hlc)).2
                have hil : i < (x :: r).length := (List.getElem?_eq_some_iff.mp hlc).1
                have fin : ∀ k : Bool, (isLet c || isFig c) = k → ∃ acc, G' D = some (.lst acc) ∧ acc.length < sizeLine ∧ Same H (upd G' D (.lst (acc ++ [V.bl k]))) ∧ upd G' D (.lst (acc ++ [V.bl k])) D = some (.lst ((((x :: r).take (i + 1)).map fun c => isLet c || isFig c).map V.bl)) := fun k hk => by
                  refine ⟨_, k2, lineT (by rw [List.length_map, List.length_map, List.length_take]; omega), Same.mut k1 hD, ?_⟩
                  rw [upd_same, List.take_add_one, hlc, List.map_append, List.map_append, ← hk]
                  rfl
                refine ⟨rfl, _, rfl, c, _, rfl, rfl, _, rfl, ?_⟩
                rw [let_sign c c127]
                cases h1 : isLet c with
                | true => exact iteT (fin true (by rw [h1]; rfl))
                | false =>
                  refine iteF ⟨_, rfl, c, _, rfl, rfl, ?_⟩
                  rw [fig_sign c c127]
                  exact fin _ (by rw [h1]; rfl)
              · rintro G ⟨k1, k2⟩
                have hz : (mk (x :: r)).cps.size = (x :: r).length := mk_len _
                rw [hz, List.take_length] at k2
                refine ⟨D, _, rfl, SqL.of k2, ?_⟩
                rw [List.all_map]
                have qy := q G k1
                have : isNm (x :: r) = ((x :: r).all fun c => isLet c || isFig c) := by
                  unfold isNm
                  rw [decide_eq_true (show 1 ≤ (x :: r).length by omega), decide_eq_true (show (x :: r).length ≤ 8 by omega), show (x :: r).headD 0 = x from rfl, hl1, decide_eq_false ch, decide_eq_false cr]
                  rfl
                rw [this] at qy
                exact qy
      · rw [decide_eq_false cB]
        exact itT rfl (qn (by unfold isNm; rw [decide_eq_false (show ¬ l.length ≤ 8 by omega)]; simp))
    · rw [decide_eq_false cA]
      exact iteF ⟨_, rfl, itT rfl (qn (by unfold isNm; rw [decide_eq_false (show ¬ 1 ≤ l.length by omega)]; simp))⟩
abbrev KnIsNm (P : Program) (w : World) (K : PySem.W.Frag) (mg : Str → Option Value) (base : Heap) : Prop := Kn P w K mg base CX0 1 "is_name" ["text"] [] spNm
/-! rows_of -/
def spRows : Sp := fun vs H Q _ => ∃ l : Tx, vs = [.str (mk l)] ∧ (∀ c ∈ l, c = 10 ∨ 32 ≤ c ∧ c < 127) ∧ l.length ≤ 50000 ∧ ∀ p H', H p = none → Same H H' → H' p = some (.lst (vTx (rowsT l))) → Q (.ref p) H'
abbrev N_rows_of : List Str := ["text", "rows", "row"]
theorem sc_rows_of : FnScope ["text", "rows", "row"] ["text"] (defScope s_rows_of) := ⟨rfl, rfl, rfl, by decide +kernel, rfl, by decide +kernel, by decide +kernel⟩
theorem ok_rowsof (F : FnP K "rows_of" s_rows_of dvs f fd) : FnOk P w K mg base CX0 1 f fd ["text"] spRows := by
  refine F.ok sc_rows_of (fun vs H Q E h => ?_) (fun cdv A outer s H vs Q E hr h => ?_)
  · obtain ⟨l, rfl, _⟩ := h
    rfl
  · obtain ⟨l, rfl, hc, hl, q⟩ := h
    refine ⟨_, PSs.nox (pss_cons (ps_set (i := 1) sc_rows_of.nd rfl (Or.inl rfl) (pe_bm PySem.F.plainAttrs_str PySem.F.slot_str_split PySem.F.type_str_split mt_split (pv 0) (pa_cons pe_str pa_nil)))
      (pss_cons (ps_if (pt_cmpR op_eq (pe_ix ix_list (pv 1) (pe_un un_neg pe_int) (fun _ _ => rfl)) pe_str (nomark _)) (pss_one (ps_delL (pv 1) (pe_un un_neg pe_int))) pss_nil)
      (pss_one (ps_ret (pe_lc (own := [("row", 2)]) (g := gName 2) rfl sc_rows_of.nd (pi_list (pv 1)) (blkOk_by (own := [("row", 2)]) (N := N_rows_of) (sc := defScope s_rows_of) (by decide +kernel)) (fun _ _ _ _ _ => (pg_name (i := 2) sc_rows_of.nd rfl (Or.inl rfl))) (fun _ _ _ _ _ => pts_nil) (fun _ _ _ _ _ => (show PE _ _ (tBM0 K "str" r_strip _) from pe_bm0 PySem.F.plainAttrs_str PySem.F.slot_str_strip PySem.F.type_str_strip mt_strip (pe_ix (show IxR _ (rIxT K) from ix_tup) (show PE _ _ (tBM K "str" r_partition _ _) from pe_bm PySem.F.plainAttrs_str PySem.F.slot_str_partition PySem.F.type_str_partition mt_partition (pv 2) (pa_cons pe_str pa_nil)) pe_int (fun _ _ => rfl))))))))), ?_⟩
    have e10 : ("\n" : Str) = ⟨#[10]⟩ := rfl
    refine ⟨_, rfl, rfl, mk l, _, rfl, rfl, rfl, by rw [mk_len]; exact line5 (by omega), fun p hp => ?_⟩
    rw [e10, split_mk]
    have s1 : Same H (upd H p (.lst (((splitT 10 l).map mk).map V.str))) := Same.add hp
    have e1 : (upd H p (.lst (((splitT 10 l).map mk).map V.str))) p = some (.lst (((splitT 10 l).map mk).map V.str)) := upd_same
    generalize upd H p (.lst (((splitT 10 l).map mk).map V.str)) = H1 at s1 e1 ⊢
    have hv : ((splitT 10 l).map mk).map V.str = vTx (splitT 10 l) := by rw [List.map_map]; rfl
    rw [hv] at e1
    have hn := splitT_len 10 l
    have hne := splitT_ne 10 l
    dsimp only [gName, List.set]
    refine sqT ?_
    have clR : ∀ z ∈ splitT 10 l, ClT z ∧ z.length ≤ 50000 := fun z hz => ⟨fun c h => by
      obtain ⟨h1, h2⟩ := splitT_sub hz c h
      rcases hc c h1 with h3 | h3
      · exact absurd h3 h2
      · exact h3, Nat.le_trans (splitT_plen hz) hl⟩
    have e0 : ("" : Str) = mk [] := rfl
    obtain ⟨rs, r, hrs⟩ : ∃ rs r, splitT 10 l = rs ++ [r] := by
      rcases List.eq_nil_or_concat (splitT 10 l) with h | ⟨a, b, h⟩
      · exact absurd h hne
      · exact ⟨a, b, by rw [h]; simp⟩
    have hlast : atI (vTx (splitT 10 l)) (-1) = some (V.str (mk r)) := by
      rw [hrs]
      unfold vTx
      rw [List.map_append]
      exact atI_last _ _
    refine ifJ (fun σ' G => σ' = [some (.str (mk l)), some (.ref p), none] ∧ Same H G ∧ G p = some (.lst (vTx (butLast (splitT 10 l))))) ?_ (fun key => ?_)
    · rintro σ' G2 ⟨rfl, s2, e2⟩
      have hlen : (butLast (splitT 10 l)).length ≤ 50001 := Nat.le_trans (butLast_len _) (Nat.le_trans hn (by omega))
      refine ⟨_, rfl, p, rfl, ⟨_, SqL.of e2⟩, fun D hD => lc_it walk_list (fun i G => Same G2 G ∧ G D = some (.lst (vTx (((butLast (splitT 10 l)).take i).map fun r => stripT (aheadT 59 r))))) ⟨Same.add hD, upd_same⟩ (fun _ _ _ k => SqL.of (k.1 _ _ e2)) ?_ ?_⟩
      · rintro i x G G' hi ⟨k1, k2⟩ ⟨rfl, hx⟩
        unfold vTx at hx hi
        rw [List.getElem?_map] at hx
        obtain ⟨z, hz, rfl⟩ := Option.map_eq_some_iff.mp hx
        rw [List.length_map] at hi
        obtain ⟨z1, z2⟩ := clR z (butLast_sub z (List.mem_of_getElem? hz))
        have z3 := z1.sub (ahead_sub 59 z)
        have z4 := ahead_len 59 z
        have e59 : (";" : Str) = ⟨#[59]⟩ := rfl
        refine ⟨rfl, _, rfl, rfl, mk z, _, rfl, rfl, rfl, str_line z2, fun T hT => ?_⟩
        rw [e59, part_mk]
        have nT : T ≠ D := ne_of_free k2 hT
        refine ⟨T, _, _, _, rfl, rfl, SqT.of upd_same, atI_nat (j := 0) rfl, rfl, mk (aheadT 59 z), rfl, rfl, str_line (by omega), ?_⟩
        rw [strip_mk z3]
        refine ⟨_, by rw [upd_ne nT.symm]; exact k2, lineT (by unfold vTx; rw [List.length_map, List.length_map, List.length_take]; omega), Same.mut (Same.trans k1 (Same.add hT)) hD, ?_⟩
        rw [upd_same, List.take_add_one, hz, List.map_append]
        unfold vTx
        rw [List.map_append]
        rfl
      · rintro G ⟨k1, k2⟩
        refine q _ _ (free_of s2 hD) (Same.trans s2 k1) ?_
        unfold vTx at k2
        rw [List.length_map, List.take_length] at k2
        exact k2
    · refine ⟨_, rfl, _, rfl, p, _, _, _, rfl, rfl, SqL.of e1, hlast, ?_⟩
      refine ⟨rfl, _, rfl, ?_⟩
      rw [e0, dec_str]
      have hb : butLast (splitT 10 l) = if r = [] then rs else rs ++ [r] := by rw [hrs, butLast_app]
      by_cases c : r = []
      · rw [decide_eq_true c]
        rw [if_pos c] at hb
        have hlen : (vTx (splitT 10 l)).length = rs.length + 1 := by
          unfold vTx
          rw [List.length_map, hrs, List.length_append]
          rfl
        refine iteT ⟨_, rfl, _, rfl, p, _, _, rs.length, rfl, rfl, e1, by decide, by decide, ?_, ?_⟩
        · rw [hlen]
          unfold seqIndex?
          have e : (-1 : Int) + ((rs.length + 1 : Nat) : Int) = (rs.length : Int) := by omega
          simp only [show (-1 : Int) < 0 by decide, if_true, e]
          rw [if_pos (by simp; omega)]
          simp
        · refine key _ _ ⟨rfl, Same.mut s1 hp, ?_⟩
          rw [upd_same, hb, hrs]
          unfold vTx
          rw [List.map_append, List.eraseIdx_append_of_length_le (by rw [List.length_map]; exact Nat.le_refl _), List.length_map, Nat.sub_self]
          show some (HO.lst (_ ++ [])) = _
          rw [List.append_nil]
      · rw [decide_eq_false c]
        rw [if_neg c, ← hrs] at hb
        refine iteF (key _ _ ⟨rfl, s1, ?_⟩)
        rw [hb]
        exact e1
abbrev KnRowsOf (P : Program) (w : World) (K : PySem.W.Frag) (mg : Str → Option Value) (base : Heap) : Prop := Kn P w K mg base CX0 1 "rows_of" ["text"] [] spRows
end
end Bm
set_option maxHeartbeats 1000000
namespace Bm
open PySem PySem.Spec PyProof.Rows L2
def rowF (n l r w t p : V) : List (Str × V) := [("number", n), ("label", l), ("rest", r), ("word", w), ("texts", t), ("parts", p)]
theorem rf_number (n l r w t p : V) : (rowF n l r w t p).lookup ("number" : Str) = some n := by kernel_rfl
theorem rf_label (n l r w t p : V) : (rowF n l r w t p).lookup ("label" : Str) = some l := by kernel_rfl
theorem rf_rest (n l r w t p : V) : (rowF n l r w t p).lookup ("rest" : Str) = some r := by kernel_rfl
theorem rf_word (n l r w t p : V) : (rowF n l r w t p).lookup ("word" : Str) = some w := by kernel_rfl
theorem rf_texts (n l r w t p : V) : (rowF n l r w t p).lookup ("texts" : Str) = some t := by kernel_rfl
theorem rf_parts (n l r w t p : V) : (rowF n l r w t p).lookup ("parts" : Str) = some p := by kernel_rfl
def RFN : List Str := ["number", "label", "rest", "word", "texts", "parts"]
structure CT (K : PySem.W.Frag) (C : Addr) (fs : List Str) : Prop where
  cl : Cls K C
  n : ∀ f ∈ fs, NoAttr K C f
theorem m_number : ("number" : Str) ∈ RFN := by decide +kernel
theorem m_label : ("label" : Str) ∈ RFN := by decide +kernel
theorem m_rest : ("rest" : Str) ∈ RFN := by decide +kernel
theorem m_word : ("word" : Str) ∈ RFN := by decide +kernel
theorem m_texts : ("texts" : Str) ∈ RFN := by decide +kernel
theorem m_parts : ("parts" : Str) ∈ RFN := by decide +kernel
def vOt : Option Tx → V
  | none => .non
  | some l => .str (mk l)
/-- a row as an object -/
def RAtX (C : Addr) (H : Hp) (a tl pl : Addr) (r : Rw) : Prop := ∃ dx, H a = some (.ins C dx (rowF (.int (r.number : Nat)) (vOt r.label) (.str (mk r.rest)) (.str (mk r.word)) (.ref tl) (.ref pl))) ∧ H tl = some (.lst (vTx r.texts)) ∧ H pl = some (.lst (vTx r.parts))
def RAt (C : Addr) (H : Hp) (a : Addr) (r : Rw) : Prop := ∃ dx tl pl, H a = some (.ins C dx (rowF (.int (r.number : Nat)) (vOt r.label) (.str (mk r.rest)) (.str (mk r.word)) (.ref tl) (.ref pl))) ∧ H tl = some (.lst (vTx r.texts)) ∧ H pl = some (.lst (vTx r.parts))
theorem RAtX.at_ {C : Addr} {H : Hp} {a tl pl : Addr} {r : Rw} (h : RAtX C H a tl pl r) : RAt C H a r := by
  obtain ⟨dx, h1, h2, h3⟩ := h
  exact ⟨dx, tl, pl, h1, h2, h3⟩
theorem RAt.same {C : Addr} {H H' : Hp} {a : Addr} {r : Rw} (h : RAt C H a r) (e : Same H H') : RAt C H' a r := by
  obtain ⟨dx, tl, pl, h1, h2, h3⟩ := h
  exact ⟨dx, tl, pl, e _ _ h1, e _ _ h2, e _ _ h3⟩
theorem RAtX.same {C : Addr} {H H' : Hp} {a tl pl : Addr} {r : Rw} (h : RAtX C H a tl pl r) (e : Same H H') : RAtX C H' a tl pl r := by
  obtain ⟨dx, h1, h2, h3⟩ := h
  exact ⟨dx, e _ _ h1, e _ _ h2, e _ _ h3⟩
theorem RAtX.upd {C : Addr} {H : Hp} {a tl pl b : Addr} {r : Rw} {o : HO} (h : RAtX C H a tl pl r) (n1 : a ≠ b) (n2 : tl ≠ b) (n3 : pl ≠ b) : RAtX C (L2.upd H b o) a tl pl r := by
  obtain ⟨dx, h1, h2, h3⟩ := h
  exact ⟨dx, by rw [upd_ne n1]; exact h1, by rw [upd_ne n2]; exact h2, by rw [upd_ne n3]; exact h3⟩
section
variable {P : Program} {w : World} {K : PySem.W.Frag} {mg : Str → Option Value} {base : Heap} {f C : Addr} {fd : FuncData} {dvs : List V}
def spRowI (C : Addr) : Sp := fun vs H Q _ => ∃ (H0 : Hp) (x dx : Addr) (n : Nat) (l : Tx), vs = [.ref x, .int (n : Nat), .str (mk l)] ∧ H0 x = none ∧ H0 dx = none ∧ dx ≠ x ∧ H = upd (upd H0 dx (.own x)) x (.ins C dx []) ∧ ClT l ∧ l.length ≤ 50000 ∧ ∀ tl pl H', Same H0 H' → H0 tl = none → H0 pl = none → RAtX C H' x tl pl (rowT n l) → Q .non H'
abbrev N_Row____init__ : List Str := ["self", "number", "text", "ahead", "colon", "behind", "word", "part"]
theorem sc_Row____init__ : FnScope ["self", "number", "text", "ahead", "colon", "behind", "word", "part"] ["self", "number", "text"] (defScope s_Row____init__) := ⟨rfl, rfl, rfl, by decide +kernel, rfl, by decide +kernel, by decide +kernel⟩
theorem ok_rowI (F : FunD K "__init__" "Row.__init__" (defArgs s_Row____init__) (defBody s_Row____init__) (defScope s_Row____init__) dvs [] f fd) (T : CT K C RFN) (k_lowered : KnLow P w K mg base) (k_word_and_rest : KnWrt P w K mg base) (k_parts_of : KnParts P w K mg base) : FnOk P w K mg base CX0 2 f fd ["self", "number", "text"] (spRowI C) := by
  refine F.ok sc_Row____init__ (fun vs H Q E h => ?_) (fun cdv A outer s H vs Q E hr h => ?_)
  · obtain ⟨H0, x, dx, n, l, rfl, _⟩ := h
    rfl
  · obtain ⟨H0, x, dx, n, l, rfl, hx, hdx, hne, rfl, hc, hl, q⟩ := h
    refine ⟨_, PSs.nox (pss_cons (ps_asg (pe_bm PySem.F.plainAttrs_str PySem.F.slot_str_partition PySem.F.type_str_partition mt_partition (pv 2) (pa_cons pe_str pa_nil)) (pg_tup rfl (pgs_cons (pg_name (i := 3) sc_Row____init__.nd rfl (Or.inl rfl)) (pgs_cons (pg_name (i := 4) sc_Row____init__.nd rfl (Or.inl rfl)) (pgs_cons (pg_name (i := 5) sc_Row____init__.nd rfl (Or.inl rfl)) pgs_nil)))))
      (pss_cons (ps_fld (pv 0) (pv 1) rfl)
      (pss_cons (ps_fld (pv 0) (pe_ifExp (pt_cmpR op_eq (pv 4) pe_str (nomark _)) pe_non (pk k_lowered hr (by decide) rfl pass0 (pa_cons (pe_bm0 PySem.F.plainAttrs_str PySem.F.slot_str_strip PySem.F.type_str_strip mt_strip (pv 3)) pa_nil))) rfl)
      (pss_cons (ps_asg (pk k_word_and_rest hr (by decide) rfl pass0 (pa_cons (pe_ifExp (pt_cmpR op_eq (pv 4) pe_str (nomark _)) (pv 2) (pv 5)) pa_nil)) (pg_tup rfl (pgs_cons (pg_name (i := 6) sc_Row____init__.nd rfl (Or.inl rfl)) (pgs_cons (pg_fld (pv 0)) pgs_nil))))
      (pss_cons (ps_fld (pv 0) (pk k_lowered hr (by decide) rfl pass0 (pa_cons (pv 6) pa_nil)) rfl)
      (pss_cons (ps_fld (pv 0) (pk k_parts_of hr (by decide) rfl pass0 (pa_cons (pe_fld (pv 0) rfl) pa_nil)) rfl)
      (pss_one (ps_fld (pv 0) (pe_lc (own := [("part", 7)]) (g := gName 7) rfl sc_Row____init__.nd (pi_list (pe_fld (pv 0) rfl)) (blkOk_by (own := [("part", 7)]) (N := N_Row____init__) (sc := defScope s_Row____init__) (by decide +kernel)) (fun _ _ _ _ _ => (pg_name (i := 7) sc_Row____init__.nd rfl (Or.inl rfl))) (fun _ _ _ _ _ => pts_nil) (fun _ _ _ _ _ => (pk k_lowered hr (by decide) rfl pass0 (pa_cons (pv 7) pa_nil)))) rfl)))))))), ?_⟩
    have e0 : (upd (upd H0 dx (.own x)) x (.ins C dx [])) x = some (.ins C dx []) := upd_same
    have s0 : Same H0 (upd (upd H0 dx (.own x)) x (.ins C dx [])) := Same.mut (Same.add hdx) hx
    refine sqT ?_
    have e58 : (":" : Str) = ⟨#[58]⟩ := rfl
    have eE : ("" : Str) = mk [] := rfl
    refine ⟨_, rfl, rfl, mk l, _, rfl, rfl, rfl, str_line hl, fun T1 hT1 => ?_⟩
    rw [e58, part_mk]
    generalize upd (upd H0 dx (.own x)) x (.ins C dx []) = G0 at e0 s0 hT1 ⊢
    have s1 : Same G0 (upd G0 T1 (.tup [V.str (mk (aheadT 58 l)), V.str (if 58 ∈ l then (⟨#[58]⟩ : Str) else Str.empty), V.str (mk (behindT 58 l))])) := Same.add hT1
    have e1 : (upd G0 T1 (.tup [V.str (mk (aheadT 58 l)), V.str (if 58 ∈ l then (⟨#[58]⟩ : Str) else Str.empty), V.str (mk (behindT 58 l))])) T1 = some (.tup [V.str (mk (aheadT 58 l)), V.str (if 58 ∈ l then (⟨#[58]⟩ : Str) else Str.empty), V.str (mk (behindT 58 l))]) := upd_same
    generalize upd G0 T1 (.tup [V.str (mk (aheadT 58 l)), V.str (if 58 ∈ l then (⟨#[58]⟩ : Str) else Str.empty), V.str (mk (behindT 58 l))]) = G1 at s1 e1 ⊢
    refine ⟨T1, _, rfl, SqT.of e1, rfl, _, _, rfl, _, _, rfl, _, _, rfl, rfl, ?_⟩
    have hcol : ∀ y : V, y = .str (if 58 ∈ l then (⟨#[58]⟩ : Str) else Str.empty) → decide (y = V.str "") = !decide (58 ∈ l) := fun y hy => by
      subst hy
      by_cases c : 58 ∈ l
      · rw [if_pos c, decide_eq_true c]
        exact decide_eq_false fun z => by have := mk_inj (V.str.inj z : mk [58] = mk []); cases this
      · rw [if_neg c, decide_eq_false c]
        exact decide_eq_true rfl
    dsimp only [gName, List.set]
    have ex1 := s1 _ _ e0
    have sx1 := Same.trans s0 s1
    clear s1 e1 e0 s0 hT1
    have hcol := hcol _ rfl
    have hsc : scal (V.str (if 58 ∈ l then (⟨#[58]⟩ : Str) else Str.empty)) (V.str "") = true := rfl
    generalize (V.str (if 58 ∈ l then (⟨#[58]⟩ : Str) else Str.empty)) = vc at hcol hsc ⊢
    have ca := hc.sub (ahead_sub 58 l)
    have la := ahead_len 58 l
    have cb := hc.sub (body_sub l)
    have lb := body_len l
    have wc := wr_cl cb
    have wl := wr_len (bodyT l)
    refine sqT ?_
    refine ⟨_, rfl, _, rfl, x, C, dx, _, rfl, ex1, T.cl, T.n _ m_number, by decide, ?_⟩
    have ex2 : upd G1 x (.ins C dx (putF "number" (.int (n : Nat)) [])) x = some (.ins C dx [("number", .int (n : Nat))]) := upd_same
    have sx2 : Same H0 (upd G1 x (.ins C dx (putF "number" (.int (n : Nat)) []))) := Same.mut sx1 hx
    dsimp only
    generalize upd G1 x (.ins C dx (putF "number" (.int (n : Nat)) [])) = G2 at ex2 sx2 ⊢
    clear ex1 sx1
    refine sqT ?_
    refine tIfJ (fun v G => v = vOt (rowT n l).label ∧ Same G2 G) ?_ (fun key => ?_)
    rotate_left
    · refine ⟨_, rfl, hsc, _, rfl, ?_⟩
      rw [hcol]
      by_cases c : 58 ∈ l
      · rw [decide_eq_true c]
        refine itF rfl ⟨_, rfl, rfl, mk (aheadT 58 l), rfl, rfl, str_line (by omega), ?_⟩
        rw [strip_mk ca]
        refine ⟨_, rfl, ca.sub (stripT_sub _), by have := stripT_len (aheadT 58 l); omega, fun G s => key _ _ ⟨?_, s⟩⟩
        show _ = vOt (if 58 ∈ l then _ else _)
        rw [if_pos c]
        rfl
      · rw [decide_eq_false c]
        refine itT rfl (key _ _ ⟨?_, Same.refl _⟩)
        show _ = vOt (if 58 ∈ l then _ else _)
        rw [if_neg c]
        rfl
    rintro v G3 ⟨rfl, s3⟩
    refine ⟨_, rfl, x, C, dx, _, rfl, s3 _ _ ex2, T.cl, T.n _ m_label, by simp, ?_⟩
    have ex4 : upd G3 x (.ins C dx (putF "label" (vOt (rowT n l).label) [("number", .int (n : Nat))])) x = some (.ins C dx [("number", .int (n : Nat)), ("label", vOt (rowT n l).label)]) := upd_same
    have sx4 : Same H0 (upd G3 x (.ins C dx (putF "label" (vOt (rowT n l).label) [("number", .int (n : Nat))]))) := Same.mut (Same.trans sx2 s3) hx
    dsimp only
    generalize upd G3 x (.ins C dx (putF "label" (vOt (rowT n l).label) [("number", .int (n : Nat))])) = G4 at ex4 sx4 ⊢
    clear ex2 sx2 s3
    refine sqT ?_
    refine tIfJ (fun v G => v = .str (mk (bodyT l)) ∧ G = G4) ?_ (fun key => ?_)
    rotate_left
    · refine ⟨_, rfl, hsc, _, rfl, ?_⟩
      rw [hcol]
      by_cases c : 58 ∈ l
      · rw [decide_eq_true c]
        refine itF rfl ⟨_, rfl, key _ _ ⟨?_, rfl⟩⟩
        unfold bodyT
        rw [if_pos c]
      · rw [decide_eq_false c]
        refine itT rfl ⟨_, rfl, key _ _ ⟨?_, rfl⟩⟩
        unfold bodyT
        rw [if_neg c]
    rintro v G5 ⟨rfl, rfl⟩
    refine ⟨_, rfl, cb, by omega, fun p G6 hp s6 hT => ?_⟩
    have ex6 := s6 _ _ ex4
    refine ⟨p, _, rfl, hT, rfl, _, _, rfl, _, _, rfl, _, rfl, x, C, dx, _, rfl, ex6, T.cl, T.n _ m_rest, by simp, rfl, ?_⟩
    dsimp only [gName, List.set]
    have ex7 : upd G6 x (.ins C dx (putF "rest" (.str (mk (wordRest (bodyT l)).2)) [("number", .int (n : Nat)), ("label", vOt (rowT n l).label)])) x = some (.ins C dx [("number", .int (n : Nat)), ("label", vOt (rowT n l).label), ("rest", .str (mk (wordRest (bodyT l)).2))]) := upd_same
    have sx7 : Same H0 (upd G6 x (.ins C dx (putF "rest" (.str (mk (wordRest (bodyT l)).2)) [("number", .int (n : Nat)), ("label", vOt (rowT n l).label)]))) := Same.mut (Same.trans sx4 s6) hx
    generalize upd G6 x (.ins C dx (putF "rest" (.str (mk (wordRest (bodyT l)).2)) [("number", .int (n : Nat)), ("label", vOt (rowT n l).label)])) = G7 at ex7 sx7 ⊢
    clear ex6 ex4 sx4 s6 hT
    refine sqT ?_
    refine ⟨_, rfl, _, rfl, wc.1, by omega, fun G8 s8 => ?_⟩
    have ex8 := s8 _ _ ex7
    refine ⟨_, rfl, x, C, dx, _, rfl, ex8, T.cl, T.n _ m_word, by simp, ?_⟩
    have ex9 : upd G8 x (.ins C dx (putF "word" (.str (mk (lowd (wordRest (bodyT l)).1))) [("number", .int (n : Nat)), ("label", vOt (rowT n l).label), ("rest", .str (mk (wordRest (bodyT l)).2))])) x = some (.ins C dx [("number", .int (n : Nat)), ("label", vOt (rowT n l).label), ("rest", .str (mk (wordRest (bodyT l)).2)), ("word", .str (mk (lowd (wordRest (bodyT l)).1)))]) := upd_same
    have sx9 : Same H0 (upd G8 x (.ins C dx (putF "word" (.str (mk (lowd (wordRest (bodyT l)).1))) [("number", .int (n : Nat)), ("label", vOt (rowT n l).label), ("rest", .str (mk (wordRest (bodyT l)).2))]))) := Same.mut (Same.trans sx7 s8) hx
    dsimp only
    generalize upd G8 x (.ins C dx (putF "word" (.str (mk (lowd (wordRest (bodyT l)).1))) [("number", .int (n : Nat)), ("label", vOt (rowT n l).label), ("rest", .str (mk (wordRest (bodyT l)).2))])) = G9 at ex9 sx9 ⊢
    clear ex8 ex7 sx7 s8
    refine sqT ?_
    refine ⟨_, rfl, x, C, dx, _, _, rfl, ex9, T.cl, T.n _ m_rest, by kernel_rfl, (wordRest (bodyT l)).2, rfl, wc.2, by omega, fun tl G10 htl s10 hT10 => ?_⟩
    have ex10 := s10 _ _ ex9
    refine ⟨_, rfl, x, C, dx, _, rfl, ex10, T.cl, T.n _ m_texts, by simp, ?_⟩
    have ntx : tl ≠ x := ne_of_free ex9 htl
    have tl0 : H0 tl = none := free_of sx9 htl
    have ex11 : upd G10 x (.ins C dx (putF "texts" (.ref tl) [("number", .int (n : Nat)), ("label", vOt (rowT n l).label), ("rest", .str (mk (wordRest (bodyT l)).2)), ("word", .str (mk (lowd (wordRest (bodyT l)).1)))])) x = some (.ins C dx [("number", .int (n : Nat)), ("label", vOt (rowT n l).label), ("rest", .str (mk (wordRest (bodyT l)).2)), ("word", .str (mk (lowd (wordRest (bodyT l)).1))), ("texts", .ref tl)]) := upd_same
    have sx11 : Same H0 (upd G10 x (.ins C dx (putF "texts" (.ref tl) [("number", .int (n : Nat)), ("label", vOt (rowT n l).label), ("rest", .str (mk (wordRest (bodyT l)).2)), ("word", .str (mk (lowd (wordRest (bodyT l)).1)))]))) := Same.mut (Same.trans sx9 s10) hx
    have hT11 : upd G10 x (.ins C dx (putF "texts" (.ref tl) [("number", .int (n : Nat)), ("label", vOt (rowT n l).label), ("rest", .str (mk (wordRest (bodyT l)).2)), ("word", .str (mk (lowd (wordRest (bodyT l)).1)))])) tl = some (.lst (vTx (partsT (wordRest (bodyT l)).2))) := by
      rw [upd_ne ntx]
      exact hT10
    dsimp only
    generalize upd G10 x (.ins C dx (putF "texts" (.ref tl) [("number", .int (n : Nat)), ("label", vOt (rowT n l).label), ("rest", .str (mk (wordRest (bodyT l)).2)), ("word", .str (mk (lowd (wordRest (bodyT l)).1)))])) = G11 at ex11 sx11 hT11 ⊢
    clear ex10 ex9 sx9 s10 hT10 htl
    have pcl := parts_cl wc.2
    have pln := parts_len (wordRest (bodyT l)).2
    refine ⟨_, rfl, x, C, dx, _, _, rfl, ex11, T.cl, T.n _ m_texts, by kernel_rfl, tl, rfl, ⟨_, SqL.of hT11⟩, fun D hD => lc_it walk_list (fun i G => Same G11 G ∧ G D = some (.lst (vTx (((partsT (wordRest (bodyT l)).2).take i).map lowd)))) ⟨Same.add hD, upd_same⟩ (fun _ _ _ k => SqL.of (k.1 _ _ hT11)) ?_ ?_⟩
    · rintro i v G G' hi ⟨k1, k2⟩ ⟨rfl, hv⟩
      unfold vTx at hv hi
      rw [List.getElem?_map] at hv
      obtain ⟨z, hz, rfl⟩ := Option.map_eq_some_iff.mp hv
      rw [List.length_map] at hi
      obtain ⟨z1, z2⟩ := pcl z (List.mem_of_getElem? hz)
      refine ⟨rfl, _, rfl, z, rfl, z1, by omega, fun G2 s2 => ?_⟩
      refine ⟨_, s2 _ _ k2, lineT (by unfold vTx; rw [List.length_map, List.length_map, List.length_take]; omega), Same.mut (Same.trans k1 s2) hD, ?_⟩
      rw [upd_same, List.take_add_one, hz, List.map_append]
      unfold vTx
      rw [List.map_append]
      rfl
    · rintro G ⟨k1, k2⟩
      unfold vTx at k2
      rw [List.length_map, List.take_length] at k2
      have ex12 := k1 _ _ ex11
      have nDx : D ≠ x := ne_of_free ex11 hD
      refine ⟨_, rfl, x, C, dx, _, rfl, ex12, T.cl, T.n _ m_parts, by simp, ?_⟩
      refine q tl D _ (Same.mut (Same.trans sx11 k1) hx) tl0 (free_of sx11 hD) ⟨dx, upd_same, ?_, ?_⟩
      · rw [upd_ne ntx]
        exact k1 _ _ hT11
      · rw [upd_ne nDx]
        exact k2
abbrev KnRow (P : Program) (w : World) (K : PySem.W.Frag) (mg : Str → Option Value) (base : Heap) (C : Addr) : Prop := C8.Mak P w K mg base 2 "Row" C (spRowI C) []
end
end Bm
set_option maxHeartbeats 1000000
namespace Bm
open PySem PySem.Spec PyProof.Rows L2
/-! the tables of the words of rows -/
def keysB (K : PySem.W.Frag) (d : Addr) (ks : List Str) : Bool := match K.lookup d with
  | some ⟨_, _, .dict es _, _⟩ => es.toList.all (fun e => match e.key with
      | .str y _ => decide (y ∈ ks)
      | _ => false) && !(es.toList.any (·.refKey))
  | _ => false
theorem keysB_ok {K : PySem.W.Frag} {d : Addr} {ks : List Str} (h : keysB K d ks = true) {z : Str} (hz : z ∉ ks) : PySem.W.nsIn K d z = some none := by
  unfold keysB at h
  unfold PySem.W.nsIn
  split at h
  · rename_i x1 x2 es n sl e
    rw [e]
    obtain ⟨h1, h2⟩ := He.ba h
    have hf : es.toList.find? (·.key.isStr z) = none := by
      rw [List.find?_eq_none]
      intro t ht
      have := List.all_eq_true.mp h1 t ht
      split at this
      · rename_i y u ek
        rw [ek]
        intro c
        have c2 : (y == z) = true := c
        exact hz (by rw [← beq_iff_eq.mp c2]; exact of_decide_eq_true this)
      · cases this
    dsimp only
    rw [hf]
    dsimp only
    rw [if_neg]
    intro c
    rw [c] at h2
    cases h2
  · cases h
theorem walk_zipN {K : PySem.W.Frag} {l r : Addr} {xs ys : List V} {n : Nat} (h : n = min xs.length ys.length) : Walk (ItM K l r) n (fun H => SqT K H l xs ∧ SqL K H r ys) (YPair (fun i => xs[i]?) (fun i => ys[i]?)) := by
  refine ⟨fun i _ hi q => ?_, fun _ q => ⟨xs, ys, q.1, q.2, by omega, by omega, by omega⟩, fun i H v H2 _ q y => ?_⟩
  · have m1 : i < xs.length := by omega
    have m2 : i < ys.length := by omega
    exact ⟨xs, ys, xs[i], ys[i], q.1, q.2, by simp [m1], by simp [m2]⟩
  · obtain ⟨T, x, z, e1, e2, e3, e4, e5⟩ := y
    exact ⟨T, x, z, e1, e2, e3, e4 xs q.1, e5 ys q.2⟩
def OT : List (Str × List Str) := [("copy", ["reg", "reg"]), ("fill", ["reg", "word"]), ("jump", ["name", "when"]), ("jump.near", ["name", "when"]), ("jump.far", ["name", "when"]), ("call", ["name"]), ("call.near", ["name"]), ("call.far", ["name"]), (".room", ["room"]), (".let", ["name", "any"])]
def SHn : List Str := ["load", "store", "jump", "jump.near", "jump.far", ".room"]
def JMn : List Str := ["jump", "jump.near", "jump.far"]
def CLn : List Str := ["call", "call.near", "call.far"]
def RGn : List Str := ["r0", "r1", "r2", "r3", "r4", "r5", "r6", "r7"]
def OSn : List (Str × Int × Int) := [("word", 0, 65535), ("short", -32768, 65535), ("any", -1000000000, 1000000000)]
def conRB (K : PySem.W.Frag) : Bool :=
  tupAt K (He.ga K "SHORTER") (dStr SHn) && (tupAt K (He.ga K "JUMPS") (dStr JMn) && (tupAt K (He.ga K "CALLS") (dStr CLn) && (tupAt K (He.ga K "REGISTERS") (dStr RGn) &&
    ((OT.all fun r => rowB K (He.ga K "OWN_KINDS") (r.1, dStr r.2)) && ((OSn.all fun r => rowB K (He.ga K "OWN_SPANS") (r.1, [.int r.2.1, .int r.2.2])) &&
      (keysB K (He.ga K "OWN_KINDS") (OT.map (·.1)) && (keysB K (He.ga K "PARTS") (PT.map (·.1)) && keysB K (He.ga K "OWN_SPANS") (OSn.map (·.1)))))))))
structure ConR (w : World) (K : PySem.W.Frag) (mg : Str → Option Value) : Prop where
  g_SHORTER : mg "SHORTER" = some (.ref (He.ga K "SHORTER"))
  g_JUMPS : mg "JUMPS" = some (.ref (He.ga K "JUMPS"))
  g_CALLS : mg "CALLS" = some (.ref (He.ga K "CALLS"))
  g_REGISTERS : mg "REGISTERS" = some (.ref (He.ga K "REGISTERS"))
  g_OWN_KINDS : mg "OWN_KINDS" = some (.ref (He.ga K "OWN_KINDS"))
  g_OWN_SPANS : mg "OWN_SPANS" = some (.ref (He.ga K "OWN_SPANS"))
  sh : ∀ H, SqT K H (He.ga K "SHORTER") (SHn.map V.str)
  jm : ∀ H, SqT K H (He.ga K "JUMPS") (JMn.map V.str)
  cl : ∀ H, SqT K H (He.ga K "CALLS") (CLn.map V.str)
  rg : ∀ H, SqT K H (He.ga K "REGISTERS") (RGn.map V.str) ∧ tyV K "tuple" (.ref (He.ga K "REGISTERS")) H
  own : ∃ es n, KDict K w (He.ga K "OWN_KINDS") es n
  osp : ∃ es n, KDict K w (He.ga K "OWN_SPANS") es n
  ownR : ∀ r ∈ OT, ∃ t, PySem.W.nsIn K (He.ga K "OWN_KINDS") r.1 = some (some (.ref t)) ∧ ∀ H, SqT K H t (r.2.map V.str)
  ospR : ∀ r ∈ OSn, ∃ t, PySem.W.nsIn K (He.ga K "OWN_SPANS") r.1 = some (some (.ref t)) ∧ ∀ H, SqT K H t [.int r.2.1, .int r.2.2]
  ownN : ∀ x, x ∉ OT.map (·.1) → PySem.W.nsIn K (He.ga K "OWN_KINDS") x = some none
  parN : ∀ x, x ∉ PT.map (·.1) → PySem.W.nsIn K (He.ga K "PARTS") x = some none
  ospN : ∀ x, x ∉ OSn.map (·.1) → PySem.W.nsIn K (He.ga K "OWN_SPANS") x = some none
theorem conR_of {w : World} {K : PySem.W.Frag} {mg : Str → Option Value} (h : conRB K = true) (g1 : mg "SHORTER" = some (.ref (He.ga K "SHORTER"))) (g2 : mg "JUMPS" = some (.ref (He.ga K "JUMPS"))) (g3 : mg "CALLS" = some (.ref (He.ga K "CALLS"))) (g4 : mg "REGISTERS" = some (.ref (He.ga K "REGISTERS")))
    (g5 : mg "OWN_KINDS" = some (.ref (He.ga K "OWN_KINDS"))) (g6 : mg "OWN_SPANS" = some (.ref (He.ga K "OWN_SPANS"))) (p : ∃ es n, KDict K w (He.ga K "OWN_KINDS") es n) (s : ∃ es n, KDict K w (He.ga K "OWN_SPANS") es n) : ConR w K mg := by
  obtain ⟨h1, h⟩ := He.ba h
  obtain ⟨h2, h⟩ := He.ba h
  obtain ⟨h3, h⟩ := He.ba h
  obtain ⟨h4, h⟩ := He.ba h
  obtain ⟨h5, h⟩ := He.ba h
  obtain ⟨h6, h⟩ := He.ba h
  obtain ⟨h7, h⟩ := He.ba h
  obtain ⟨h8, h9⟩ := He.ba h
  refine ⟨g1, g2, g3, g4, g5, g6, fun H => ?_, fun H => ?_, fun H => ?_, fun H => ?_, p, s, fun r hr => ?_, fun r hr => ?_, fun x hx => keysB_ok h7 hx, fun x hx => keysB_ok h8 hx, fun x hx => keysB_ok h9 hx⟩
  · rw [← dStr_v (K := K)]
    exact (tupAt_ok h1 H).1
  · rw [← dStr_v (K := K)]
    exact (tupAt_ok h2 H).1
  · rw [← dStr_v (K := K)]
    exact (tupAt_ok h3 H).1
  · rw [← dStr_v (K := K)]
    exact tupAt_ok h4 H
  · obtain ⟨t, e, q⟩ := rowB_ok (List.all_eq_true.mp h5 r hr)
    refine ⟨t, e, fun H => ?_⟩
    rw [← dStr_v (K := K)]
    exact q H
  · obtain ⟨t, e, q⟩ := rowB_ok (List.all_eq_true.mp h6 r hr)
    exact ⟨t, e, fun H => q H⟩
def numB (v : V) (lo hi : Int) : Bool := match v with
  | .int i => decide (lo ≤ i) && decide (i ≤ hi)
  | _ => false
/-- a word's kinds -/
def kindsS (x : Str) : Option (List Str) := match OT.lookup x with
  | some k => some k
  | none => PT.lookup x
theorem lookup_mem {α : Type} {x : Str} {v : α} : ∀ {l : List (Str × α)}, l.lookup x = some v → (x, v) ∈ l
  | [], h => by cases h
  | (y, u) :: l, h => by
    rw [List.lookup_cons] at h
    cases c : x == y with
    | true =>
      rw [c] at h
      rw [beq_iff_eq.mp c, ← Option.some.inj h]
      exact List.mem_cons_self ..
    | false =>
      rw [c] at h
      exact List.mem_cons_of_mem _ (lookup_mem h)
theorem lookup_none {α : Type} {x : Str} : ∀ {l : List (Str × α)}, l.lookup x = none → x ∉ l.map (·.1)
  | [], _, h => by cases h
  | (y, u) :: l, h, hm => by
    rw [List.lookup_cons] at h
    cases c : x == y with
    | true => rw [c] at h; cases h
    | false =>
      rw [c] at h
      rcases List.mem_cons.mp hm with e | e
      · rw [e, beq_self_eq_true] at c
        cases c
      · exact lookup_none h e
section
variable {P : Program} {w : World} {K : PySem.W.Frag} {mg : Str → Option Value} {base : Heap} {f CR : Addr} {fd : FuncData} {dvs : List V}
/-! is_told, kinds_of -/
def spTold : Sp := fun vs H Q _ => ∃ x : Str, vs = [.str x] ∧ ∀ H', Same H H' → Q (.bl (kindsS x).isSome) H'
abbrev N_is_told : List Str := ["word"]
theorem sc_is_told : FnScope ["word"] ["word"] (defScope s_is_told) := ⟨rfl, rfl, rfl, by decide +kernel, rfl, by decide +kernel, by decide +kernel⟩
theorem ok_told (F : FnP K "is_told" s_is_told dvs f fd) (hC : Con w K mg []) (hR : ConR w K mg) : FnOk P w K mg base CX0 1 f fd ["word"] spTold := by
  have g_PARTS := hC.g_PARTS
  have g_OWN_KINDS := hR.g_OWN_KINDS
  obtain ⟨_, _, D_PARTS⟩ := hC.parts
  obtain ⟨_, _, D_OWN_KINDS⟩ := hR.own
  refine F.ok sc_is_told (fun vs H Q E h => ?_) (fun cdv A outer s H vs Q E hr h => ?_)
  · obtain ⟨x, rfl, _⟩ := h
    rfl
  · obtain ⟨x, rfl, q⟩ := h
    refine ⟨_, PSs.nox (pss_one (ps_ret (pe_or (pe_cmpR (op_in_kd D_PARTS) (pv 0) (pe_glob (v := .ref (He.ga K "PARTS")) rfl g_PARTS rfl) rfl) (pe_one (pe_cmpR (op_in_kd D_OWN_KINDS) (pv 0) (pe_glob (v := .ref (He.ga K "OWN_KINDS")) rfl g_OWN_KINDS rfl) rfl))))), ?_⟩
    have q := q H (Same.refl _)
    cases hp : PT.lookup x with
    | some ks =>
      obtain ⟨t, e, _⟩ := hC.part _ (lookup_mem hp)
      have : (kindsS x).isSome = true := by
        unfold kindsS
        split
        · rfl
        · rw [hp]; rfl
      rw [this] at q
      exact ⟨_, rfl, x, _, rfl, rfl, e, _, rfl, iteT q⟩
    | none =>
      refine ⟨_, rfl, x, _, rfl, rfl, hR.parN x (lookup_none hp), _, rfl, iteF ?_⟩
      cases ho : OT.lookup x with
      | some ks =>
        obtain ⟨t, e, _⟩ := hR.ownR _ (lookup_mem ho)
        have : (kindsS x).isSome = true := by
          unfold kindsS
          rw [ho]
          rfl
        rw [this] at q
        exact ⟨_, rfl, x, _, rfl, rfl, e, q⟩
      | none =>
        have : (kindsS x).isSome = false := by
          unfold kindsS
          rw [ho, hp]
          rfl
        rw [this] at q
        exact ⟨_, rfl, x, _, rfl, rfl, hR.ownN x (lookup_none ho), q⟩
abbrev KnTold (P : Program) (w : World) (K : PySem.W.Frag) (mg : Str → Option Value) (base : Heap) : Prop := Kn P w K mg base CX0 1 "is_told" ["word"] [] spTold
def spKinds (K : PySem.W.Frag) : Sp := fun vs H Q _ => ∃ (x : Str) (ks : List Str), vs = [.str x] ∧ kindsS x = some ks ∧ ∀ t H', Same H H' → SqT K H' t (ks.map V.str) → Q (.ref t) H'
abbrev N_kinds_of : List Str := ["word"]
theorem sc_kinds_of : FnScope ["word"] ["word"] (defScope s_kinds_of) := ⟨rfl, rfl, rfl, by decide +kernel, rfl, by decide +kernel, by decide +kernel⟩
theorem ok_kinds (F : FnP K "kinds_of" s_kinds_of dvs f fd) (hC : Con w K mg []) (hR : ConR w K mg) : FnOk P w K mg base CX0 1 f fd ["word"] (spKinds K) := by
  have g_PARTS := hC.g_PARTS
  have g_OWN_KINDS := hR.g_OWN_KINDS
  obtain ⟨_, _, D_PARTS⟩ := hC.parts
  obtain ⟨_, _, D_OWN_KINDS⟩ := hR.own
  refine F.ok sc_kinds_of (fun vs H Q E h => ?_) (fun cdv A outer s H vs Q E hr h => ?_)
  · obtain ⟨x, ks, rfl, _⟩ := h
    rfl
  · obtain ⟨x, ks, rfl, hk, q⟩ := h
    refine ⟨_, PSs.nox (pss_one (ps_ret (pe_ifExp (pt_cmpR (op_in_kd D_OWN_KINDS) (pv 0) (pe_glob (v := .ref (He.ga K "OWN_KINDS")) rfl g_OWN_KINDS rfl) rfl) (pe_ix ix_kdict (pe_glob (v := .ref (He.ga K "OWN_KINDS")) rfl g_OWN_KINDS rfl) (pv 0) (fun _ _ => rfl)) (pe_ix ix_kdict (pe_glob (v := .ref (He.ga K "PARTS")) rfl g_PARTS rfl) (pv 0) (fun _ _ => rfl))))), ?_⟩
    unfold kindsS at hk
    cases ho : OT.lookup x with
    | some k =>
      rw [ho] at hk
      obtain rfl := Option.some.inj hk
      obtain ⟨t, e, hs⟩ := hR.ownR _ (lookup_mem ho)
      refine ⟨_, rfl, x, _, rfl, rfl, e, _, rfl, iteT ?_⟩
      exact ⟨_, rfl, _, x, .ref t, rfl, rfl, ⟨_, _, _, D_OWN_KINDS.at_, D_OWN_KINDS.lit, e, rfl⟩, q t _ (Same.refl _) (hs _)⟩
    | none =>
      rw [ho] at hk
      obtain ⟨t, e, hs⟩ := hC.part _ (lookup_mem hk)
      refine ⟨_, rfl, x, _, rfl, rfl, hR.ownN x (lookup_none ho), _, rfl, iteF ?_⟩
      exact ⟨_, rfl, _, x, .ref t, rfl, rfl, ⟨_, _, _, D_PARTS.at_, D_PARTS.lit, e, rfl⟩, q t _ (Same.refl _) (hs _)⟩
abbrev KnKinds (P : Program) (w : World) (K : PySem.W.Frag) (mg : Str → Option Value) (base : Heap) : Prop := Kn P w K mg base CX0 1 "kinds_of" ["word"] [] (spKinds K)
theorem pev_str_yes {H : Hp} {x c : Str} (h : x = c) : PEv (tPv (.str c)) (.str x) H (some []) := by subst h; exact pev_yes rfl
def spNumO : Sp := fun vs H Q _ => ∃ (v : V) (lo hi : Int) (o : Option Nat), vs = [v, .int lo, .int hi] ∧ v = vNo o ∧ Q (.bl (numB v lo hi)) H
abbrev N_is_number : List Str := ["thing", "least", "most"]
theorem sc_is_number : FnScope ["thing", "least", "most"] ["thing", "least", "most"] (defScope s_is_number) := ⟨rfl, rfl, rfl, by decide +kernel, rfl, by decide +kernel, by decide +kernel⟩
theorem ok_numO (F : FnP K "is_number" s_is_number dvs f fd) (g_isinstance : mg "isinstance" = none) (g_bool : mg "bool" = none) (g_int : mg "int" = none) : FnOk P w K mg base CX0 1 f fd ["thing", "least", "most"] spNumO := by
  refine F.ok sc_is_number (fun vs H Q E h => ?_) (fun cdv A outer s H vs Q E hr h => ?_)
  · obtain ⟨v, lo, hi, o, rfl, _⟩ := h
    rfl
  · obtain ⟨v, lo, hi, o, rfl, rfl, q⟩ := h
    refine ⟨_, PSs.nox (pss_cons (ps_if (PW.pt (pw_or (pt_val (pe_callB call_isi rfl g_isinstance (by decide +kernel) (pa_cons (pv 0) (pa_cons (pe_bltn (v := .ty "bool") rfl g_bool (by decide +kernel) rfl) pa_nil)))) (pw_or1 (pt_not (pt_val (pe_callB call_isi rfl g_isinstance (by decide +kernel) (pa_cons (pv 0) (pa_cons (pe_bltn (v := .ty "int") rfl g_int (by decide +kernel) rfl) pa_nil)))))))) (pss_one (ps_ret pe_bl)) pss_nil)
      (pss_one (ps_ret (pe_chain op_le op_le (pv 1) (pv 0) (pv 2))))), ?_⟩
    cases o with
    | none =>
      exact ⟨_, rfl, _, _, _, _, _, rfl, .ty _, Knd.ty .non, kit_ty (r := false) (by decide +kernel), _, rfl, iteF ⟨_, rfl, _, _, _, _, _, rfl, .ty _, Knd.ty .non, kit_ty (r := false) (by decide +kernel), _, rfl, iteT q⟩⟩
    | some n =>
      refine ⟨_, rfl, _, _, _, _, _, rfl, .ty _, Knd.ty (.int (n : Nat)), kit_ty (r := false) (by decide +kernel), _, rfl, iteF ⟨_, rfl, _, _, _, _, _, rfl, .ty _, Knd.ty (.int (n : Nat)), kit_ty (r := true) (by decide +kernel), _, rfl, iteF ?_⟩⟩
      refine ⟨_, rfl, _, rfl, _, _, rfl, rfl, _, rfl, ?_⟩
      have q : Q (.bl (decide (lo ≤ (n : Int)) && decide ((n : Int) ≤ hi))) H := q
      by_cases c : lo ≤ (n : Int)
      · rw [decide_eq_true c] at q ⊢
        exact iteT ⟨_, rfl, _, _, rfl, rfl, q⟩
      · rw [decide_eq_false c] at q ⊢
        exact iteF q
abbrev KnNo (P : Program) (w : World) (K : PySem.W.Frag) (mg : Str → Option Value) (base : Heap) : Prop := Kn P w K mg base CX0 1 "is_number" ["thing", "least", "most"] [] spNumO
/-! fits -/
def fitsT (k : Str) (p : Tx) : Bool :=
  if k = "reg" then decide (p ∈ REGS) else if k = "when" then decide (mk p ∈ TM) else if k = "name" then isNm p
  else if k = "room" then (match numT p with
    | some n => decide (1 ≤ n) && decide (n ≤ 50)
    | none => false) else !decide (p = [])
theorem regs_eq : RGn.map V.str = vTx REGS := by decide +kernel
theorem in_strs (x : Str) : ∀ ls : List Str, inV (V.str x) (ls.map V.str) = decide (x ∈ ls)
  | [] => rfl
  | m :: ls => by
    have ih := in_strs x ls
    unfold inV at ih ⊢
    rw [List.map_cons, List.any_cons, ih]
    have e : eqV (V.str m) (V.str x) = decide (x = m) := by
      by_cases h : x = m
      · rw [h, decide_eq_true rfl]
        simp [eqV]
      · rw [decide_eq_false h]
        simp only [eqV]
        exact beq_eq_false_iff_ne.mpr fun z => h z.symm
    rw [e]
    by_cases h : x = m <;> simp [h]
theorem flat_strs : ∀ ls : List Str, (ls.map V.str).all flatV = true
  | [] => rfl
  | m :: ls => flat_strs ls
def spFits : Sp := fun vs H Q _ => ∃ (k : Str) (p : Tx), vs = [.str k, .str (mk p)] ∧ ClT p ∧ p.length ≤ 50000 ∧ ∀ H', Same H H' → Q (.bl (fitsT k p)) H'
abbrev N_fits : List Str := ["kind", "part"]
theorem sc_fits : FnScope ["kind", "part"] ["kind", "part"] (defScope s_fits) := ⟨rfl, rfl, rfl, by decide +kernel, rfl, by decide +kernel, by decide +kernel⟩
theorem ok_fits (F : FnP K "fits" s_fits dvs f fd) (hC : Con w K mg []) (hR : ConR w K mg) (k_is_name : KnIsNm P w K mg base) (k_is_number : KnNo P w K mg base) (k_number_of : KnNumOf P w K mg base) (g_ROOM_MOST : ∃ t, mg "ROOM_MOST" = some (.int 50 t)) : FnOk P w K mg base CX0 3 f fd ["kind", "part"] spFits := by
  have g_TIMES := hC.g_TIMES
  have g_REGISTERS := hR.g_REGISTERS
  obtain ⟨_, g_ROOM_MOST⟩ := g_ROOM_MOST
  refine F.ok sc_fits (fun vs H Q E h => ?_) (fun cdv A outer s H vs Q E hr h => ?_)
  · obtain ⟨k, p, rfl, _⟩ := h
    rfl
  · obtain ⟨k, p, rfl, hc, hl, q⟩ := h
    refine ⟨_, PSs.nox (pss_one (ps_match (pv 0) (pcs_cons sc_fits.nd (pp_val pe_str) (pss_one (ps_ret (pe_cmpR op_in_seq (pv 1) (pe_glob (v := .ref (He.ga K "REGISTERS")) rfl g_REGISTERS rfl) rfl)))
      (pcs_cons sc_fits.nd (pp_val pe_str) (pss_one (ps_ret (pe_cmpR op_in_seq (pv 1) (pe_glob (v := .ref (He.ga K "TIMES")) rfl g_TIMES rfl) rfl)))
      (pcs_cons sc_fits.nd (pp_val pe_str) (pss_one (ps_ret (pk k_is_name hr (by decide) rfl pass0 (pa_cons (pv 1) pa_nil))))
      (pcs_cons sc_fits.nd (pp_val pe_str) (pss_one (ps_ret (pk k_is_number hr (by decide) rfl pass0 (pa_cons (pk k_number_of hr (by decide) rfl pass0 (pa_cons (pv 1) pa_nil)) (pa_cons pe_int (pa_cons (pe_glob (v := .int 50) rfl g_ROOM_MOST ⟨_, rfl⟩) pa_nil))))))
      (pcs_cons sc_fits.nd pp_wild (pss_one (ps_ret (pe_cmpR op_ne (pv 1) pe_str (nomark _))))
      pcs_nil))))))), ?_⟩
    have q0 := q H (Same.refl _)
    unfold fitsT at q q0
    refine ⟨_, rfl, ?_⟩
    by_cases c1 : k = "reg"
    · rw [if_pos c1] at q0
      refine cs_yes (pev_str_yes c1) ?_
      refine ⟨_, rfl, He.ga K "REGISTERS", _, rfl, .inr (hR.rg H).1, rfl, flat_strs _, ?_⟩
      rw [if_neg Bool.false_ne_true, regs_eq, in_texts]
      exact q0
    refine cs_no (pev_str c1) ?_
    rw [if_neg c1] at q q0
    by_cases c2 : k = "when"
    · rw [if_pos c2] at q0
      refine cs_yes (pev_str_yes c2) ?_
      refine ⟨_, rfl, He.ga K "TIMES", _, rfl, .inr (hC.tm H).1, rfl, flat_strs _, ?_⟩
      rw [if_neg Bool.false_ne_true, in_strs]
      exact q0
    refine cs_no (pev_str c2) ?_
    rw [if_neg c2] at q q0
    by_cases c3 : k = "name"
    · rw [if_pos c3] at q
      exact cs_yes (pev_str_yes c3) ⟨_, rfl, p, rfl, hc, hl, q⟩
    refine cs_no (pev_str c3) ?_
    rw [if_neg c3] at q q0
    by_cases c4 : k = "room"
    · rw [if_pos c4] at q
      refine cs_yes (pev_str_yes c4) ⟨_, rfl, p, rfl, hc, hl, fun H1 s1 => ?_⟩
      have q1 := q H1 s1
      refine ⟨_, 1, 50, numT p, rfl, rfl, ?_⟩
      · cases hn : numT p with
        | none =>
          rw [hn] at q1
          exact q1
        | some n =>
          rw [hn] at q1
          have e : numB (V.int (n : Nat)) 1 50 = (decide (1 ≤ n) && decide (n ≤ 50)) := by
            unfold numB
            by_cases h1 : 1 ≤ n <;> by_cases h2 : n ≤ 50 <;> simp [h1, h2] <;> omega
          show _
          rw [show vNo (some n) = V.int (n : Nat) from rfl, e]
          exact q1
    refine cs_no (pev_str c4) ?_
    rw [if_neg c4] at q0
    refine cs_yes pev_wild ⟨_, rfl, rfl, ?_⟩
    have e0 : ("" : Str) = mk [] := rfl
    rw [e0, dec_str]
    exact q0
abbrev KnFits (P : Program) (w : World) (K : PySem.W.Frag) (mg : Str → Option Value) (base : Heap) : Prop := Kn P w K mg base CX0 3 "fits" ["kind", "part"] [] spFits
theorem flat_tx : ∀ ls : List Tx, (vTx ls).all flatV = true
  | [] => rfl
  | m :: ls => flat_tx ls
theorem str_empty : ("" : Str) = mk [] := rfl
theorem wS_nil {r : Tx} : (mk r = "") ↔ r = [] := ⟨fun h => mk_inj h, fun h => by rw [h]; rfl⟩
/-! rows' forms -/
abbrev wS (r : Rw) : Str := mk r.word
def isFormT (r : Rw) : Bool :=
  if wS r = "" then true
  else if wS r = ".word" then decide (0 < r.parts.length) && !decide ([] ∈ r.parts)
  else match kindsS (wS r) with
    | none => false
    | some ks => if ks.length = r.parts.length ∨ (ks.length = r.parts.length + 1 ∧ wS r ∈ SHn) then (ks.zip r.parts).all fun kp => fitsT kp.1 kp.2 else false
def goesS (r : Rw) : Bool := decide (wS r ∈ JMn) || decide (wS r ∈ CLn)
def goalT (r : Rw) : Option Tx := if goesS r = true then r.parts.head? else none
def leastT (r : Rw) : Nat :=
  if wS r = "" ∨ wS r = ".let" then 0
  else if wS r = ".word" then r.parts.length
  else if wS r = ".room" then (match r.parts with
    | [p] => (numT p).getD 0
    | _ => 1)
  else if wS r = "fill" ∨ wS r = "jump.far" ∨ wS r = "call.far" then 2 else 1
/-- a row's parts are plain and short -/
def RwOk (r : Rw) : Prop := (∀ p ∈ r.parts, ClT p ∧ p.length ≤ 50000) ∧ r.parts.length ≤ 50000
/-- at a row: a field of texts, the word, the parts -/
theorem RAt.word {H : Hp} {a : Addr} {r : Rw} (h : RAt CR H a r) : ∃ dx n l rs t p, H a = some (.ins CR dx (rowF n l rs (.str (wS r)) t p)) ∧ True := by
  obtain ⟨dx, tl, pl, h1, h2, h3⟩ := h
  exact ⟨dx, _, _, _, _, _, h1, True.intro⟩
def spRow1 (CR : Addr) (ok : Rw → Prop) (g : Rw → V) : Sp := fun vs H Q _ => ∃ (a : Addr) (r : Rw), vs = [.ref a] ∧ RAt CR H a r ∧ RwOk r ∧ ok r ∧ ∀ H', Same H H' → Q (g r) H'
abbrev N_goal_name : List Str := ["row"]
theorem sc_goal_name : FnScope ["row"] ["row"] (defScope s_goal_name) := ⟨rfl, rfl, rfl, by decide +kernel, rfl, by decide +kernel, by decide +kernel⟩
theorem ok_goalname (F : FnP K "goal_name" s_goal_name dvs f fd) (T : CT K CR RFN) (hR : ConR w K mg) : FnOk P w K mg base CX0 1 f fd ["row"] (spRow1 CR (fun r => goesS r = true → r.parts ≠ []) fun r => vOt (goalT r)) := by
  have g_JUMPS := hR.g_JUMPS
  have g_CALLS := hR.g_CALLS
  refine F.ok sc_goal_name (fun vs H Q E h => ?_) (fun cdv A outer s H vs Q E hr h => ?_)
  · obtain ⟨a, r, rfl, _⟩ := h
    rfl
  · obtain ⟨a, r, rfl, hA, hok, hne, q⟩ := h
    refine ⟨_, PSs.nox (pss_one (ps_ret (pe_ifExp (PW.pt (pw_or (pt_cmpR op_in_seq (pe_fld (pv 0) rfl) (pe_glob (v := .ref (He.ga K "JUMPS")) rfl g_JUMPS rfl) rfl) (pw_or1 (pt_cmpR op_in_seq (pe_fld (pv 0) rfl) (pe_glob (v := .ref (He.ga K "CALLS")) rfl g_CALLS rfl) rfl)))) (pe_ix ix_list (pe_fld (pv 0) rfl) pe_int (fun _ _ => rfl)) pe_non))), ?_⟩
    obtain ⟨dx, tl, pl, h1, h2, h3⟩ := hA
    have q := q H (Same.refl _)
    unfold goalT at q
    dsimp only at q
    have parts_ : goesS r = true → L2.tOp (rIxL K) (tFld K (tVar 0) "parts") (tC (V.int 0)) [some (.ref a)] H Q := fun hg => by
      rw [if_pos hg] at q
      cases hp : r.parts with
      | nil => exact absurd hp (hne hg)
      | cons p ps =>
        rw [hp] at q h3
        exact ⟨_, rfl, a, CR, dx, _, _, rfl, h1, T.cl, T.n _ m_parts, rf_parts _ _ _ _ _ _, pl, _, _, _, rfl, rfl, SqL.of h3, atI_nat (j := 0) rfl, q⟩
    refine ⟨_, rfl, a, CR, dx, _, _, rfl, h1, T.cl, T.n _ m_word, rf_word _ _ _ _ _ _, He.ga K "JUMPS", _, rfl, .inr (hR.jm H), rfl, flat_strs _, _, rfl, ?_⟩
    rw [if_neg Bool.false_ne_true, in_strs]
    by_cases c1 : wS r ∈ JMn
    · rw [decide_eq_true c1]
      exact iteT (iteT (parts_ (by unfold goesS; rw [decide_eq_true c1]; rfl)))
    · rw [decide_eq_false c1]
      refine iteF ⟨_, rfl, a, CR, dx, _, _, rfl, h1, T.cl, T.n _ m_word, rf_word _ _ _ _ _ _, He.ga K "CALLS", _, rfl, .inr (hR.cl H), rfl, flat_strs _, _, rfl, ?_⟩
      rw [if_neg Bool.false_ne_true, in_strs]
      by_cases c2 : wS r ∈ CLn
      · rw [decide_eq_true c2]
        exact iteT (parts_ (by unfold goesS; rw [decide_eq_true c2]; simp))
      · rw [decide_eq_false c2]
        rw [if_neg (by unfold goesS; rw [decide_eq_false c1, decide_eq_false c2]; simp)] at q
        exact iteF q
abbrev N_is_form : List Str := ["row", "kinds", "lacking", "kind", "part"]
theorem sc_is_form : FnScope ["row", "kinds", "lacking", "kind", "part"] ["row"] (defScope s_is_form) := ⟨rfl, rfl, rfl, by decide +kernel, rfl, by decide +kernel, by decide +kernel⟩
theorem ok_isform (F : FnP K "is_form" s_is_form dvs f fd) (T : CT K CR RFN) (hR : ConR w K mg) (k_is_told : KnTold P w K mg base) (k_kinds_of : KnKinds P w K mg base) (k_fits : KnFits P w K mg base) (g_len : mg "len" = none) (g_all : mg "all" = none) (g_zip : mg "zip" = none) : FnOk P w K mg base CX0 4 f fd ["row"] (spRow1 CR (fun _ => True) fun r => .bl (isFormT r)) := by
  have g_SHORTER := hR.g_SHORTER
  refine F.ok sc_is_form (fun vs H Q E h => ?_) (fun cdv A outer s H vs Q E hr h => ?_)
  · obtain ⟨a, r, rfl, _⟩ := h
    rfl
  · obtain ⟨a, r, rfl, hA, hok, _, q⟩ := h
    refine ⟨_, PSs.nox (pss_cons (ps_if (pt_cmpR op_eq (pe_fld (pv 0) rfl) pe_str (nomark _)) (pss_one (ps_ret pe_bl)) pss_nil)
      (pss_cons (ps_if (pt_cmpR op_eq (pe_fld (pv 0) rfl) pe_str (nomark _)) (pss_one (ps_ret (pe_and (pe_cmpR op_gt (pe_callB call_len rfl g_len boot_len (pa_cons (pe_fld (pv 0) rfl) pa_nil)) pe_int (nomark _)) (pe_one (pe_cmpR op_notIn_seq pe_str (pe_fld (pv 0) rfl) rfl))))) pss_nil)
      (pss_cons (ps_if (pt_not (pt_val (pk k_is_told hr (by decide) rfl pass0 (pa_cons (pe_fld (pv 0) rfl) pa_nil)))) (pss_one (ps_ret pe_bl)) pss_nil)
      (pss_cons (ps_set (i := 1) sc_is_form.nd rfl (Or.inl rfl) (pk k_kinds_of hr (by decide) rfl pass0 (pa_cons (pe_fld (pv 0) rfl) pa_nil)))
      (pss_cons (ps_set (i := 2) sc_is_form.nd rfl (Or.inl rfl) (pe_op op_sub (pe_callB call_len rfl g_len boot_len (pa_cons (pv 1) pa_nil)) (pe_callB call_len rfl g_len boot_len (pa_cons (pe_fld (pv 0) rfl) pa_nil))))
      (pss_cons (ps_if (PW.pt (pw_and (pt_cmpR op_ne (pv 2) pe_int (nomark _)) (pw_and1 (pt_not (PW.pt (pw_and (pt_cmpR op_eq (pv 2) pe_int (nomark _)) (pw_and1 (pt_cmpR op_in_seq (pe_fld (pv 0) rfl) (pe_glob (v := .ref (He.ga K "SHORTER")) rfl g_SHORTER rfl) rfl)))))))) (pss_one (ps_ret pe_bl)) pss_nil)
      (pss_one (ps_ret (pe_callB (cr_all rfl) rfl g_all (by decide +kernel) (pa_cons (pe_lc (own := [("kind", 3), ("part", 4)]) (g := gTup K 2 (gCons (gName 3) (gCons (gName 4) (gNil)))) rfl sc_is_form.nd (pi_zipM rfl g_zip (pa_cons (pv 1) (pa_cons (pe_fld (pv 0) rfl) pa_nil))) (blkOk_by (own := [("kind", 3), ("part", 4)]) (N := N_is_form) (sc := defScope s_is_form) (by decide +kernel)) (fun _ _ _ _ _ => (pg_tup rfl (pgs_cons (pg_name (i := 3) sc_is_form.nd rfl (Or.inl rfl)) (pgs_cons (pg_name (i := 4) sc_is_form.nd rfl (Or.inl rfl)) pgs_nil)))) (fun _ _ _ _ _ => pts_nil) (fun _ _ _ _ _ => (pk k_fits hr (by decide) rfl pass0 (pa_cons (pv 3) (pa_cons (pv 4) pa_nil))))) pa_nil)))))))))), ?_⟩
    obtain ⟨dx, tl, pl, h1, h2, h3⟩ := hA
    have q0 := q H (Same.refl _)
    unfold isFormT at q q0
    dsimp only at q q0
    have lv : (vTx r.parts).length = r.parts.length := by unfold vTx; rw [List.length_map]
    refine sqT ?_
    refine ⟨_, rfl, a, CR, dx, _, _, rfl, h1, T.cl, T.n _ m_word, rf_word _ _ _ _ _ _, rfl, _, rfl, ?_⟩
    by_cases c1 : wS r = ""
    · rw [if_pos c1] at q0
      rw [decide_eq_true (congrArg V.str c1)]
      exact iteT q0
    rw [decide_eq_false (fun z => c1 (V.str.inj z))]
    rw [if_neg c1] at q q0
    refine iteF ?_
    refine sqT ?_
    refine ⟨_, rfl, a, CR, dx, _, _, rfl, h1, T.cl, T.n _ m_word, rf_word _ _ _ _ _ _, rfl, _, rfl, ?_⟩
    by_cases c2 : wS r = ".word"
    · rw [if_pos c2] at q0
      rw [decide_eq_true (congrArg V.str c2)]
      refine iteT ⟨_, rfl, a, CR, dx, _, _, rfl, h1, T.cl, T.n _ m_parts, rf_parts _ _ _ _ _ _, _, _, rfl, .inl ⟨_, SqL.of h3, rfl⟩, _, _, rfl, rfl, _, rfl, ?_⟩
      rw [lv]
      by_cases c3 : 0 < r.parts.length
      · rw [decide_eq_true (show (0 : Int) < (r.parts.length : Int) by omega)]
        rw [decide_eq_true c3] at q0
        refine iteT ⟨_, rfl, a, CR, dx, _, _, rfl, h1, T.cl, T.n _ m_parts, rf_parts _ _ _ _ _ _, pl, _, rfl, .inl (SqL.of h3), rfl, flat_tx _, ?_⟩
        rw [if_pos rfl, str_empty, in_texts]
        exact q0
      · rw [decide_eq_false (show ¬ (0 : Int) < (r.parts.length : Int) by omega)]
        rw [decide_eq_false c3] at q0
        exact iteF q0
    rw [decide_eq_false (fun z => c2 (V.str.inj z))]
    rw [if_neg c2] at q q0
    refine iteF ?_
    refine sqT ?_
    refine ⟨_, rfl, a, CR, dx, _, _, rfl, h1, T.cl, T.n _ m_word, rf_word _ _ _ _ _ _, wS r, rfl, fun H1 s1 => ⟨_, rfl, ?_⟩⟩
    cases hk : kindsS (wS r) with
    | none =>
      rw [hk] at q
      exact itT rfl (q H1 s1)
    | some ks =>
      rw [hk] at q
      dsimp only at q
      refine itF rfl ?_
      refine sqT ?_
      refine ⟨_, rfl, a, CR, dx, _, _, rfl, s1 _ _ h1, T.cl, T.n _ m_word, rf_word _ _ _ _ _ _, wS r, ks, rfl, hk, fun t H2 s2 ht => ?_⟩
      dsimp only [gName, List.set]
      have s12 := Same.trans s1 s2
      have h12 := s12 _ _ h1
      have h32 := s12 _ _ h3
      have lk : (ks.map V.str).length = ks.length := List.length_map ..
      refine sqT ?_
      refine ⟨_, rfl, _, _, rfl, .inr ⟨_, ht, rfl⟩, _, rfl, a, CR, dx, _, _, rfl, h12, T.cl, T.n _ m_parts, rf_parts _ _ _ _ _ _, _, _, rfl, .inl ⟨_, SqL.of h32, rfl⟩, _, _, rfl, rfl, ?_⟩
      rw [lk, lv]
      dsimp only [gName, List.set]
      refine sqT ?_
      refine ifJ (fun σ' G => σ' = [some (.ref a), some (.ref t), some (.int ((ks.length : Int) - (r.parts.length : Int))), none, none] ∧ G = H2 ∧ (ks.length = r.parts.length ∨ (ks.length = r.parts.length + 1 ∧ wS r ∈ SHn))) ?_ (fun key => ?_)
      · rintro σ' G ⟨rfl, rfl, hf⟩
        rw [if_pos hf] at q
        have hmin : min (ks.map V.str).length (vTx r.parts).length = r.parts.length := by
          rw [lk, lv]
          omega
        refine ⟨_, rfl, _, rfl, a, CR, dx, _, _, rfl, h12, T.cl, T.n _ m_parts, rf_parts _ _ _ _ _ _, t, pl, _, _, rfl, ht, SqL.of h32, fun D hD => lc_it (walk_zipN hmin.symm) (fun i G2 => Same G G2 ∧ G2 D = some (.lst ((((ks.zip r.parts).take i).map fun kp => fitsT kp.1 kp.2).map V.bl))) ⟨Same.add hD, upd_same⟩ (fun _ _ _ k => ⟨Same.tup k.1 ht, SqL.of (k.1 _ _ h32)⟩) ?_ ?_⟩
        · rintro i x G2 G2' hi ⟨k1, k2⟩ ⟨U, y, z, rfl, hU, rfl, hy, hz⟩
          have hy' : (ks.map V.str)[i]? = some y := hy
          have hz' : (vTx r.parts)[i]? = some z := hz
          unfold vTx at hz'
          rw [List.getElem?_map] at hy' hz'
          obtain ⟨k, hk', rfl⟩ := Option.map_eq_some_iff.mp hy'
          obtain ⟨p, hp', rfl⟩ := Option.map_eq_some_iff.mp hz'
          have hok1 := hok.1 p (List.mem_of_getElem? hp')
          have hzip : (ks.zip r.parts)[i]? = some (k, p) := by
            rw [List.getElem?_zip_eq_some]
            exact ⟨hk', hp'⟩
          have sU : Same G2 (upd G2 U (.tup [V.str k, V.str (mk p)])) := Same.add hU
          have eU : (upd G2 U (.tup [V.str k, V.str (mk p)])) U = some (.tup [V.str k, V.str (mk p)]) := upd_same
          generalize upd G2 U (.tup [V.str k, V.str (mk p)]) = G3 at sU eU ⊢
          refine ⟨U, _, rfl, SqT.of eU, rfl, _, _, rfl, _, _, rfl, rfl, rfl, ?_⟩
          refine ⟨_, rfl, _, rfl, k, p, rfl, hok1.1, hok1.2, fun G4 s4 => ?_⟩
          have k4 := Same.trans k1 (Same.trans sU s4)
          refine ⟨_, s4 _ _ (sU _ _ k2), lineT (by rw [List.length_map, List.length_map, List.length_take]; have := hok.2; omega), Same.mut k4 hD, ?_⟩
          rw [upd_same, List.take_add_one, hzip, List.map_append, List.map_append]
          rfl
        · rintro G2 ⟨k1, k2⟩
          have hl : (ks.zip r.parts).length = r.parts.length := by
            rw [List.length_zip]
            omega
          rw [← hl, List.take_length] at k2
          refine ⟨D, _, rfl, SqL.of k2, ?_⟩
          rw [List.all_map]
          exact q _ (Same.trans s12 k1)
      · refine ⟨_, rfl, rfl, _, rfl, ?_⟩
        by_cases c3 : ks.length = r.parts.length
        · refine itF (by rw [c3, Int.sub_self]; exact congrArg Bool.not (decide_eq_true rfl)) ?_
          exact key _ _ ⟨rfl, rfl, .inl c3⟩
        · refine itT (by rw [decide_eq_false (fun z => c3 (by have := V.int.inj z; omega))]; rfl) ?_
          refine ⟨_, rfl, rfl, _, rfl, ?_⟩
          by_cases c4 : ks.length = r.parts.length + 1
          · refine itT (decide_eq_true (by rw [c4]; exact congrArg V.int (by omega))) ?_
            refine ⟨_, rfl, a, CR, dx, _, _, rfl, h12, T.cl, T.n _ m_word, rf_word _ _ _ _ _ _, He.ga K "SHORTER", _, rfl, .inr (hR.sh H2), rfl, flat_strs _, _, rfl, ?_⟩
            rw [if_neg Bool.false_ne_true, in_strs]
            by_cases c5 : wS r ∈ SHn
            · rw [decide_eq_true c5]
              exact itF rfl (key _ _ ⟨rfl, rfl, .inr ⟨c4, c5⟩⟩)
            · rw [decide_eq_false c5]
              rw [if_neg (by rintro (h | ⟨_, h⟩); exact c3 h; exact c5 h)] at q
              exact itT rfl (q _ s12)
          · refine itF (decide_eq_false fun z => c4 (by have := V.int.inj z; omega)) ?_
            rw [if_neg (by rintro (h | ⟨h, _⟩); exact c3 h; exact c4 h)] at q
            exact itT rfl (q _ s12)
abbrev N_least_size : List Str := ["row"]
theorem sc_least_size : FnScope ["row"] ["row"] (defScope s_least_size) := ⟨rfl, rfl, rfl, by decide +kernel, rfl, by decide +kernel, by decide +kernel⟩
theorem ok_least (F : FnP K "least_size" s_least_size dvs f fd) (T : CT K CR RFN) (k_number_of : KnNumOf P w K mg base) (g_len : mg "len" = none) : FnOk P w K mg base CX0 3 f fd ["row"] (spRow1 CR (fun r => wS r = ".room" → ∀ p, r.parts = [p] → (numT p).isSome = true) fun r => .int (leastT r : Nat)) := by
  refine F.ok sc_least_size (fun vs H Q E h => ?_) (fun cdv A outer s H vs Q E hr h => ?_)
  · obtain ⟨a, r, rfl, _⟩ := h
    rfl
  · obtain ⟨a, r, rfl, hA, hok, hroom, q⟩ := h
    refine ⟨_, PSs.nox (pss_one (ps_match (pe_fld (pv 0) rfl) (pcs_cons sc_least_size.nd (pp_or (ppf_cons (pp_val pe_str) (ppf_cons (pp_val pe_str) ppf_nil))) (pss_one (ps_ret pe_int))
      (pcs_cons sc_least_size.nd (pp_val pe_str) (pss_one (ps_ret (pe_callB call_len rfl g_len boot_len (pa_cons (pe_fld (pv 0) rfl) pa_nil))))
      (pcs_cons sc_least_size.nd (pp_val pe_str) (pss_one (ps_ret (pe_ifExp (pt_cmpR op_eq (pe_callB call_len rfl g_len boot_len (pa_cons (pe_fld (pv 0) rfl) pa_nil)) pe_int (nomark _)) (pk k_number_of hr (by decide) rfl pass0 (pa_cons (pe_ix ix_list (pe_fld (pv 0) rfl) pe_int (fun _ _ => rfl)) pa_nil)) pe_int)))
      (pcs_cons sc_least_size.nd (pp_or (ppf_cons (pp_val pe_str) (ppf_cons (pp_val pe_str) (ppf_cons (pp_val pe_str) ppf_nil)))) (pss_one (ps_ret pe_int))
      (pcs_cons sc_least_size.nd pp_wild (pss_one (ps_ret pe_int))
      pcs_nil))))))), ?_⟩
    obtain ⟨dx, tl, pl, h1, h2, h3⟩ := hA
    have q0 := q H (Same.refl _)
    unfold leastT at q q0
    dsimp only at q q0
    refine ⟨_, rfl, a, CR, dx, _, _, rfl, h1, T.cl, T.n _ m_word, rf_word _ _ _ _ _ _, ?_⟩
    by_cases c1 : wS r = "" ∨ wS r = ".let"
    · rw [if_pos c1] at q0
      refine cs_yes (x := []) ?_ q0
      by_cases c2 : wS r = ""
      · exact pev_or (pev_first (r := none) (pev_str_yes c2) _)
      · exact pev_or (pev_next (pev_str c2) (pev_first (r := none) (pev_str_yes (c1.resolve_left c2)) _))
    rw [if_neg c1] at q q0
    refine cs_no (pev_orN (pev_next (pev_str fun z => c1 (.inl z)) (pev_next (pev_str fun z => c1 (.inr z)) fun k q => q))) ?_
    by_cases c2 : wS r = ".word"
    · rw [if_pos c2] at q0
      refine cs_yes (pev_str_yes c2) ⟨_, rfl, a, CR, dx, _, _, rfl, h1, T.cl, T.n _ m_parts, rf_parts _ _ _ _ _ _, _, _, rfl, .inl ⟨_, SqL.of h3, rfl⟩, ?_⟩
      unfold vTx
      rw [List.length_map]
      exact q0
    rw [if_neg c2] at q q0
    refine cs_no (pev_str c2) ?_
    by_cases c3 : wS r = ".room"
    · rw [if_pos c3] at q
      refine cs_yes (pev_str_yes c3) ⟨_, rfl, a, CR, dx, _, _, rfl, h1, T.cl, T.n _ m_parts, rf_parts _ _ _ _ _ _, _, _, rfl, .inl ⟨_, SqL.of h3, rfl⟩, rfl, _, rfl, ?_⟩
      have lv : (vTx r.parts).length = r.parts.length := by unfold vTx; rw [List.length_map]
      rw [lv]
      by_cases c4 : r.parts.length = 1
      · obtain ⟨p, hp⟩ := List.length_eq_one_iff.mp c4
        obtain ⟨n, hn⟩ := Option.isSome_iff_exists.mp (hroom c3 p hp)
        have hok1 := hok.1 p (by rw [hp]; exact List.mem_singleton.mpr rfl)
        rw [hp] at q h3
        rw [decide_eq_true (by rw [c4]; rfl)]
        refine iteT ⟨_, rfl, a, CR, dx, _, _, rfl, h1, T.cl, T.n _ m_parts, rf_parts _ _ _ _ _ _, pl, _, _, _, rfl, rfl, SqL.of h3, atI_nat (j := 0) rfl, p, rfl, hok1.1, hok1.2, fun H' s' => ?_⟩
        have q1 := q H' s'
        dsimp only at q1
        rw [hn] at q1 ⊢
        exact q1
      · rw [decide_eq_false (fun z => c4 (by have := V.int.inj z; omega))]
        have q0 := q H (Same.refl _)
        refine iteF ?_
        split at q0
        · rename_i p hp
          rw [hp] at c4
          exact absurd rfl c4
        · exact q0
    rw [if_neg c3] at q0
    refine cs_no (pev_str c3) ?_
    by_cases c4 : wS r = "fill" ∨ wS r = "jump.far" ∨ wS r = "call.far"
    · rw [if_pos c4] at q0
      refine cs_yes (x := []) ?_ q0
      by_cases c5 : wS r = "fill"
      · exact pev_or (pev_first (r := none) (pev_str_yes c5) _)
      · by_cases c6 : wS r = "jump.far"
        · exact pev_or (pev_next (pev_str c5) (pev_first (r := none) (pev_str_yes c6) _))
        · exact pev_or (pev_next (pev_str c5) (pev_next (pev_str c6) (pev_first (r := none) (pev_str_yes ((c4.resolve_left c5).resolve_left c6)) _)))
    rw [if_neg c4] at q0
    refine cs_no (pev_orN (pev_next (pev_str fun z => c4 (.inl z)) (pev_next (pev_str fun z => c4 (.inr (.inl z))) (pev_next (pev_str fun z => c4 (.inr (.inr z))) fun k q => q)))) ?_
    exact cs_yes pev_wild q0
end
end Bm
set_option maxHeartbeats 400000
namespace Bm
open PySem PySem.Spec PyProof.Rows L2
/-! the errors that bear no number -/
def five : List Str := ["BadDeed", "BadReach", "NoDeed", "BadCount", "NoMend"]
def nine : List Str := ["BadDeed", "BadReach", "NoDeed", "BadCount", "NoMend", "BadImage", "BadGiven", "BadList", "BadRow"]
def kind1B (K : PySem.W.Frag) (x : Str) : Bool :=
  He.eqO (PySem.W.findIn K (.ref (He.ga K x)) "__getattribute__") (some (some (.builtin "BaseException.__getattribute__"))) && (He.eqO (PySem.W.findIn K (.ref (He.ga K x)) "__getattr__") (some none) &&
  (decide (PySem.W.subIn K (.ref (He.ga K x)) (.type "BaseException") = some true) && (PySem.W.hasDictIn K (He.ga K x) && (He.eqO (PySem.W.findIn K (.ref (He.ga K x)) "__class__") (some (some (.builtin "object.__class__"))) &&
  (He.eqO (PySem.W.specialIn K (.builtin "object.__class__") "__get__") (some (some (.builtin "getset_descriptor.__get__"))) && (decide (PySem.W.takesIn K (.builtin "object.__class__") = some true) && (decide (PySem.W.mroIn K (He.ga K x) (.type "object") = some true) &&
  (decide (PySem.W.exmOne K (.ref (He.ga K x)) (.ref (He.ga K "MillError")) = some true) && ((nine.all fun y => decide (PySem.W.kitOne K (.ref (He.ga K x)) (.ref (He.ga K y)) = some (decide (x = y)))) &&
  decide (PySem.W.kitOne K (.ref (He.ga K x)) (.type "ValueError") = some true))))))))))
def kindB (K : PySem.W.Frag) : Bool := five.all fun x => kind1B K x
structure Kind1 (K : PySem.W.Frag) (x : Str) : Prop where
  c : ExcC K (He.ga K x)
  m : PySem.W.exmOne K (.ref (He.ga K x)) (.ref (He.ga K "MillError")) = some true
  i : ∀ y ∈ nine, PySem.W.kitOne K (.ref (He.ga K x)) (.ref (He.ga K y)) = some (decide (x = y))
  v : PySem.W.kitOne K (.ref (He.ga K x)) (.type "ValueError") = some true
theorem kind_of {K : PySem.W.Frag} (h : kindB K = true) : ∀ x ∈ five, Kind1 K x := fun x hx => by
  have h : kind1B K x = true := List.all_eq_true.mp h x hx
  obtain ⟨h1, h⟩ := He.ba h
  obtain ⟨h2, h⟩ := He.ba h
  obtain ⟨h3, h⟩ := He.ba h
  obtain ⟨h4, h⟩ := He.ba h
  obtain ⟨h5, h⟩ := He.ba h
  obtain ⟨h6, h⟩ := He.ba h
  obtain ⟨h7, h⟩ := He.ba h
  obtain ⟨h8, h⟩ := He.ba h
  obtain ⟨h9, h⟩ := He.ba h
  obtain ⟨h10, h11⟩ := He.ba h
  exact ⟨⟨He.eqO_ok h1, He.eqO_ok h2, of_decide_eq_true h3, h4, He.eqO_ok h5, He.eqO_ok h6, of_decide_eq_true h7, of_decide_eq_true h8⟩, of_decide_eq_true h9, fun y hy => of_decide_eq_true (List.all_eq_true.mp h10 y hy), of_decide_eq_true h11⟩
end Bm
set_option maxHeartbeats 400000
namespace Bm
open PySem PySem.Spec PyProof.Rows L2
/-! the errors that bear a number -/
def three : List Str := ["BadImage", "BadGiven", "BadList"]
def kind3B (K : PySem.W.Frag) : Bool := three.all fun x => kind1B K x && (xfB K (He.ga K x) && He.eqO (PySem.W.findIn K (.ref (He.ga K x)) "number") (some none))
theorem kind1_ok {K : PySem.W.Frag} {x : Str} (h : kind1B K x = true) : Kind1 K x := by
  obtain ⟨h1, h⟩ := He.ba h
  obtain ⟨h2, h⟩ := He.ba h
  obtain ⟨h3, h⟩ := He.ba h
  obtain ⟨h4, h⟩ := He.ba h
  obtain ⟨h5, h⟩ := He.ba h
  obtain ⟨h6, h⟩ := He.ba h
  obtain ⟨h7, h⟩ := He.ba h
  obtain ⟨h8, h⟩ := He.ba h
  obtain ⟨h9, h⟩ := He.ba h
  obtain ⟨h10, h11⟩ := He.ba h
  exact ⟨⟨He.eqO_ok h1, He.eqO_ok h2, of_decide_eq_true h3, h4, He.eqO_ok h5, He.eqO_ok h6, of_decide_eq_true h7, of_decide_eq_true h8⟩, of_decide_eq_true h9, fun y hy => of_decide_eq_true (List.all_eq_true.mp h10 y hy), of_decide_eq_true h11⟩
structure Kind3 (K : PySem.W.Frag) (x : Str) : Prop where
  k : Kind1 K x
  f : XfC K (He.ga K x)
  n : PySem.W.findIn K (.ref (He.ga K x)) "number" = some none
theorem kind3_of {K : PySem.W.Frag} (h : kind3B K = true) : ∀ x ∈ three, Kind3 K x := fun x hx => by
  obtain ⟨h1, h⟩ := He.ba (List.all_eq_true.mp h x hx)
  obtain ⟨h2, h3⟩ := He.ba h
  exact ⟨kind1_ok h1, xfB_ok h2, He.eqO_ok h3⟩
theorem pe_never {X : Cx} {e : Expr} : PE X e (fun _ _ _ => False) := ⟨fun _ _ _ _ _ _ h => h.elim⟩
end Bm
set_option maxHeartbeats 1000000
namespace Bm
open PySem PySem.Spec PyProof.Rows L2
/-! isinstance of a caught error that has things of its own -/
def rIsX (K : PySem.W.Frag) (D a dd : Addr) : List V → Hp → VK → Prop := fun xs H Q => ∃ (c : V) (cv : Value) (b : Bool) (fs : List (Str × V)), xs = [.ref a, c] ∧ (∀ u, RelV c u → u = cv) ∧ PySem.W.kitOne K (.ref D) cv = some b ∧ H dd = some (.xd fs) ∧ Q (.bl b) H
theorem call_isX {X : Cx} {a D dd : Addr} {oe : Obj} {pn : List (Addr × Obj)} (C : ExcC X.K D) (hz : Zc (.ref D) (some dd) oe) (hf : ∃ vs, oe.data = .fields vs) : CallR (X.suite a ((a, oe) :: pn)) (.builtin "isinstance") (rIsX X.K D a dd) := by
  intro pins s σ H xs us Q I r h
  obtain ⟨c, cv, b, fs, rfl, hcv, e, hd, q⟩ := h
  obtain ⟨u1, us1, rfl, rx, r⟩ : ∃ u1 us1, us = u1 :: us1 ∧ RelV (.ref a) u1 ∧ Vals [c] us1 := by
    cases r with
    | cons h1 h2 => exact ⟨_, _, rfl, h1, h2⟩
  obtain ⟨u2, rfl, rt⟩ := r.one
  obtain rfl : u1 = Value.ref a := rx
  obtain rfl := hcv _ rt
  have hget := (I.pin (a, oe) (List.mem_append_left _ List.mem_cons_self)).1
  obtain ⟨mA, ⟨od, es, ep, ho, _⟩, _⟩ : ∃ mA, s.heap.Ns1 dd mA ∧ ∀ f, RelO (fs.lookup f) (mA f) := I.hok dd _ hd
  obtain ⟨vs, hv⟩ := hf
  have J : PySem.W.InstAt s.heap a oe D (some od) := by
    obtain ⟨k1, k2, k3, k4⟩ := oe
    obtain ⟨h1, h2⟩ := hz
    dsimp only at h1 h2 hv
    subst h1 h2 hv
    exact ⟨hget, rfl, rfl, ho⟩
  obtain ⟨cd, hcd, _⟩ := PySem.W.any_some C.hd
  exact PySem.W.kia_one (PySem.W.kitx_exc (by rw [hcd]; rfl) C.hg C.hk C.hs C.ha C.hn C.ht C.hm) I.kIn J e (fun z => nomatch z) fun tk => ⟨.bl b, H, I.kept (t' := tk) fun _ _ z => z, rfl, q⟩
/-! raising them -/
/-- an error of one number, as a caller knows it -/
structure BadN (P : Program) (w : World) (K : PySem.W.Frag) (mg : Str → Option Value) (base : Heap) (x : Str) (ps : List Str) (sp : Sp) : Prop where
  g : mg x = some (.ref (He.ga K x))
  o : OexC K (He.ga K x)
  f : ∃ (fI : Addr) (fd : FuncData), PySem.W.findIn K (.ref (He.ga K x)) "__init__" = some (some (.ref fI)) ∧ PySem.W.typeIn K (.ref fI) = some (.type "function") ∧ FnOk P w K mg base CX0 1 fI fd ps sp ∧ Binds K fd ps []
/-- what its __init__ does -/
def spIni (C : Addr) (fs : List V → List (Str × V)) (ok : List V → Prop) : Sp := fun vs H Q _ => ∃ (a : Addr) (ws : List V), vs = .ref a :: ws ∧ ok ws ∧ H a = some (exo a C none) ∧ ∀ d H2, H d = none → d ≠ a → H2 a = some (exo a C (some d)) → H2 d = some (exd d (fs ws)) → (∀ b, b ≠ a → b ≠ d → H2 b = H b) → Q .non H2
def tBad (C : Addr) (fs : List V → List (Str × V)) (ok : List V → Prop) (ta : TA) : L2.St → Hp → XK → Prop := fun σ H Q => ta σ H fun vs H1 => vs.length ≤ 1000 ∧ ok vs ∧ ∀ d, H1 d = none → Q (.ref C) (some d) (upd H1 d (.xd (fs vs)))
theorem pmk_bad {X : Cx} {x : Str} {ps : List Str} {fs : List V → List (Str × V)} {ok : List V → Prop} {j : Nat} {e : Expr} {es : List Expr} {ta : TA} {p pos : Pos} (B : BadN X.prog X.w X.K X.mg X.base x ps (spIni (He.ga X.K x) fs ok)) (hr : Room j X.A) (hj : 2 ≤ j) (hg : Gl X x) (ha : PA X (e :: es) ta)
    (hdb : (x == ("__debug__" : Str)) = false := by decide) (he : starEach (e :: es) X.env = (false, eval e X.env) :: starEach es X.env := by rfl) (hpl : (backTo pos (starEach es X.env)).any (·.1) = false := by rfl) :
    PMk X (.Call (.Name x p) (e :: es) [] pos) (tBad (He.ga X.K x) fs ok ta) := by
  obtain ⟨fI, fd, iC, tI, F1, hb⟩ := B.f
  intro pins s σ H Q I h
  have ha2 : PA X (e :: es) (fun σ H R => ∃ R' : List V → Hp → Prop, (∀ vs H1, R' vs H1 → R vs H1) ∧ ta σ H R') := ⟨fun q pn s0 σ0 H0 R I0 ⟨R', im, h0⟩ => thn (ha.run q pn s0 σ0 H0 R' I0 h0) fun us s1 ⟨vs, H1, J, r, z⟩ => ⟨vs, H1, J, r, im _ _ z⟩⟩
  refine pmk_oex (CX := CX0) (k := 1) (dvs := []) (ds := []) B.o iC tI F1 (hr.mono hj) hb .nil pass0 hg B.g ha2 hdb he hpl pins s σ H Q I ⟨_, ?_, h⟩
  rintro vs H1 ⟨hl, hok, hq⟩
  refine ⟨hl, fun a hn => ?_⟩
  rw [List.append_nil]
  refine ⟨a, vs, rfl, hok, upd_same, fun d H2 hd hda e1 e2 e3 => ⟨rfl, d, fs vs, e1, e2, ?_, ?_⟩⟩
  · rw [upd_ne hda] at hd
    exact hd
  · rw [upd_ne hda] at hd
    have eu : upd (L2.del H2 a) d (.xd (fs vs)) = upd H1 d (.xd (fs vs)) := by
      funext b
      by_cases hb : b = d
      · rw [hb, upd_same, upd_same]
      · rw [upd_ne hb, upd_ne hb]
        by_cases hba : b = a
        · rw [hba, del_same, hn]
        · rw [del_ne hba, e3 b hba hb, upd_ne hba]
    rw [eu]
    exact hq d hd
end Bm
set_option maxHeartbeats 800000
namespace Bm
open PySem PySem.Spec PyProof.Rows L2
/-! how often an item stands in a list of flat ones -/
def rCntF (K : PySem.W.Frag) : V → List V → Hp → VK → Prop := fun x xs H Q => ∃ (p : Addr) (ys : List V) (y : V), x = .ref p ∧ xs = [y] ∧ SqL K H p ys ∧ flatV y = true ∧ ys.all flatV = true ∧ Q (.int ((ys.countP fun z => eqV z y) : Nat)) H
theorem count_vals {y : V} : ∀ {ys : List V} {us : List Value}, Vals ys us → ys.all flatV = true → us.countP (eqU y) = ys.countP fun z => eqV z y
  | _, _, .nil, _ => rfl
  | z :: ys, u :: us, .cons r t, f => by
    rw [List.all_cons, Bool.and_eq_true] at f
    rw [List.countP_cons, List.countP_cons, count_vals t f.2, eqU_of r f.1]
theorem mt_countF {X : Cx} : MtR X "list.count" (rCntF X.K) := by
  intro pn s0 σ G a as va us Q J ra rs ⟨p, ys, y, ea, es, st, fy, fys, q⟩
  subst ea es
  cases ra
  obtain ⟨u, eu, ru⟩ := rs.one
  subst eu
  obtain ⟨its, rv, ⟨⟨k1, k2, k3, k4⟩, n, at_, b1, b2, b3⟩, _⟩ := J.list st
  simp only at b1 b3
  subst b1 b3
  have hmem : ∀ w ∈ its.toArray, _ := fun w hw => mem_eqAt (A := X.A.in1) (s := s0) ru fy rv fys w (by simpa using hw)
  refine call_meets PySem.F.slot_list_count ⟨_, at_, rfl⟩ PySem.F.entry_list_count
    (PySem.F.args_list_count_2 _ _) (SeqAt.list_countAt p its.toArray n k2 k4 u (eqU y)) ⟨at_, hmem, ?_⟩
  have ec : its.toArray.toList.countP (eqU y) = ys.countP fun z => eqV z y := count_vals rv fys
  refine ⟨.int ((ys.countP fun z => eqV z y) : Nat), G, J.tok _, ⟨s0.toks, ?_⟩, q⟩
  show Value.int ((its.toArray.toList.countP (eqU y) : Nat) : Int) s0.toks = Value.int ((ys.countP fun z => eqV z y : Nat) : Int) s0.toks
  rw [ec]
/-- by cases of what stands ahead -/
theorem pss_cases {X : Cx} {ss : List Stmt} {T : TS} (h : ∀ D σ H, σ.length = X.N.length → T D σ H → ∃ t, PSs X ss t ∧ t D σ H) : PSs X ss T := ⟨fun pins s σ H D I h' => let ⟨_, p, q⟩ := h D σ H I.len h'; p.run pins s σ H D I q⟩
/-- what is not come to -/
theorem ps_never {X : Cx} {st : Stmt} : PS X st (fun _ _ _ => False) := ⟨fun _ _ _ _ _ _ h => h.elim⟩
theorem len5 {α : Type} {l : List α} (h : l.length = 5) : ∃ a b c d e, l = [a, b, c, d, e] := by
  match l, h with
  | [a, b, c, d, e], _ => exact ⟨a, b, c, d, e, rfl⟩
section
variable {X : Cx}
/-- what a call of _law_kind makes of the work's reading: the word of a refusal, or a tuple of it and its number -/
def KindOf (K : PySem.W.Frag) (Q : VK) : XK := fun cls d H' => (∃ x ∈ five, cls = .ref (He.ga K x) ∧ d = none ∧ ∀ H'', Same H' H'' → Q (.str x) H'') ∨
  (∃ x ∈ three, cls = .ref (He.ga K x) ∧ ∃ (dd : Addr) (n : Int), d = some dd ∧ H' dd = some (.xd [("number", .int n)]) ∧ ∀ r H'', Same H' H'' → H'' r = some (.tup [.str x, .int n]) → Q (.ref r) H'')
def TKind (K : PySem.W.Frag) : (XK → Hp → VK → Prop) → Hp → VK → Prop := fun tl H Q => tl (KindOf K Q) H Q
def kinds (x : Str) : List V := nine.map fun y => .bl (decide (x = y))
theorem kinds_count : ∀ x ∈ five, (kinds x).countP (fun z => eqV z (.bl true)) = 1 := by decide +kernel
theorem kinds_at : ∀ x ∈ five, ∃ j, j < 5 ∧ (kinds x)[j]? = some (.bl true) ∧ (∀ m, m < j → (kinds x)[m]? = some (.bl false)) ∧ nine[j]? = some x := by decide +kernel
theorem kinds_count3 : ∀ x ∈ three, (kinds x).countP (fun z => eqV z (.bl true)) = 1 := by decide +kernel
theorem kinds_at3 : ∀ x ∈ three, ∃ j, j < 8 ∧ 5 ≤ j ∧ (kinds x)[j]? = some (.bl true) ∧ (∀ m, m < j → (kinds x)[m]? = some (.bl false)) ∧ nine[j]? = some x := by decide +kernel
abbrev N__law_kind : List Str := ["_law_work", "e", "_law_kinds", "_law_words", "_law_at"]
theorem sc__law_kind : FnScope ["_law_work", "e", "_law_kinds", "_law_words", "_law_at"] ["_law_work"] (defScope s__law_kind) := ⟨rfl, rfl, rfl, by decide +kernel, rfl, by decide +kernel, by decide +kernel⟩
theorem kind_gives {g : Addr} {cdg : Value} {q : Str} (KF : ∀ x ∈ five, Kind1 X.K x) (KT : ∀ x ∈ three, Kind3 X.K x) (g_MillError : X.mg "MillError" = some (.ref (He.ga X.K "MillError"))) (g_isinstance : X.mg "isinstance" = none) (g_ValueError : X.mg "ValueError" = none)
    (g_BadDeed : X.mg "BadDeed" = some (.ref (He.ga X.K "BadDeed"))) (g_BadReach : X.mg "BadReach" = some (.ref (He.ga X.K "BadReach"))) (g_NoDeed : X.mg "NoDeed" = some (.ref (He.ga X.K "NoDeed"))) (g_BadCount : X.mg "BadCount" = some (.ref (He.ga X.K "BadCount"))) (g_NoMend : X.mg "NoMend" = some (.ref (He.ga X.K "NoMend")))
    (g_BadImage : X.mg "BadImage" = some (.ref (He.ga X.K "BadImage"))) (g_BadGiven : X.mg "BadGiven" = some (.ref (He.ga X.K "BadGiven"))) (g_BadList : X.mg "BadList" = some (.ref (He.ga X.K "BadList"))) (g_BadRow : X.mg "BadRow" = some (.ref (He.ga X.K "BadRow"))) :
    LamX.GivesTo X N__law_kind "_law_kind" (defScope s__law_kind) g cdg (defBody s__law_kind) "_law_work" q (TKind X.K) := by
  intro f c' s H Q tl act hc h
  refine ⟨_, pss_one (ps_try_as (X := (cxOf C8.CX0 X.prog X.w X.K X.mg X.base N__law_kind "_law_kind" (defScope s__law_kind) g cdg X.A X.stack s H C8.E0).nox) (i := 1) (n := "e") (c := .ref (He.ga X.K "MillError")) (Wout := fun _ _ _ _ => False)
      (tb := fun W D σ H => ∃ Ech : XK, (∀ cls d σ' H', Ech cls d H' → W cls d σ' H') ∧ σ[0]? = some (some (.ref f)) ∧ H c' = some (LamX.CodeO c' q) ∧ tl Ech H D.rt)
      (ts := fun a cls d D σ H => (∃ σ0 : L2.St, σ = σ0.set 1 (some (.ref a))) ∧ KindOf X.K D.rt cls d H)
      rfl rfl sc__law_kind.nd rfl rfl ⟨rfl, by decide, .inl g_MillError⟩ LamX.takes0 (fun W pn xe tk _ => ?_) (fun a oe cls d pn hz hf => ?_)), ?_⟩
  · refine pss_cases fun D σ H' _ h' => ?_
    rcases h' with ⟨Eout, hE, g1, g2, g3⟩
    exact ⟨_, pss_one (ps_ret (act W pn xe Eout _ _ tk hE)), g1, g2, g3⟩
  · refine pss_cases fun D' σ' H' hl h' => ?_
    obtain ⟨⟨σ0, rfl⟩, h'⟩ := h'
    rw [List.length_set] at hl
    obtain ⟨o0, o1, o2, o3, o4, rfl⟩ := len5 hl
    rcases h' with ⟨x, hx, rfl, rfl, hq⟩ | h'
    rotate_left
    · obtain ⟨x, hx, rfl, dd, n, rfl, hd, hq⟩ := h'
      have xfc := (KT x hx).f
      have xno_number := (KT x hx).n
      have isE := call_isX (X := (cxOf C8.CX0 X.prog X.w X.K X.mg X.base N__law_kind "_law_kind" (defScope s__law_kind) g cdg X.A X.stack s H C8.E0).nox) (a := a) (pn := pn) (KT x hx).k.c hz hf
      refine ⟨_, (pss_cons (ps_set (i := 2) sc__law_kind.nd rfl (Or.inl rfl) (pe_lst (pa_cons (pe_callB isE rfl g_isinstance (by decide +kernel) (pa_cons (pv 1) (pa_cons (pe_glob (v := .ref (He.ga X.K "BadDeed")) rfl g_BadDeed rfl) pa_nil))) (pa_cons (pe_callB isE rfl g_isinstance (by decide +kernel) (pa_cons (pv 1) (pa_cons (pe_glob (v := .ref (He.ga X.K "BadReach")) rfl g_BadReach rfl) pa_nil))) (pa_cons (pe_callB isE rfl g_isinstance (by decide +kernel) (pa_cons (pv 1) (pa_cons (pe_glob (v := .ref (He.ga X.K "NoDeed")) rfl g_NoDeed rfl) pa_nil))) (pa_cons (pe_callB isE rfl g_isinstance (by decide +kernel) (pa_cons (pv 1) (pa_cons (pe_glob (v := .ref (He.ga X.K "BadCount")) rfl g_BadCount rfl) pa_nil))) pa_nil))))))
      (pss_cons (ps_set (i := 2) sc__law_kind.nd rfl (Or.inl rfl) (pe_op op_cat (pv 2) (pe_lst (pa_cons (pe_callB isE rfl g_isinstance (by decide +kernel) (pa_cons (pv 1) (pa_cons (pe_glob (v := .ref (He.ga X.K "NoMend")) rfl g_NoMend rfl) pa_nil))) (pa_cons (pe_callB isE rfl g_isinstance (by decide +kernel) (pa_cons (pv 1) (pa_cons (pe_glob (v := .ref (He.ga X.K "BadImage")) rfl g_BadImage rfl) pa_nil))) (pa_cons (pe_callB isE rfl g_isinstance (by decide +kernel) (pa_cons (pv 1) (pa_cons (pe_glob (v := .ref (He.ga X.K "BadGiven")) rfl g_BadGiven rfl) pa_nil))) pa_nil))))))
      (pss_cons (ps_set (i := 2) sc__law_kind.nd rfl (Or.inl rfl) (pe_op op_cat (pv 2) (pe_lst (pa_cons (pe_callB isE rfl g_isinstance (by decide +kernel) (pa_cons (pv 1) (pa_cons (pe_glob (v := .ref (He.ga X.K "BadList")) rfl g_BadList rfl) pa_nil))) (pa_cons (pe_callB isE rfl g_isinstance (by decide +kernel) (pa_cons (pv 1) (pa_cons (pe_glob (v := .ref (He.ga X.K "BadRow")) rfl g_BadRow rfl) pa_nil))) pa_nil)))))
      (pss_cons (ps_set (i := 3) sc__law_kind.nd rfl (Or.inl rfl) (pe_lst (pa_cons pe_str (pa_cons pe_str (pa_cons pe_str (pa_cons pe_str (pa_cons pe_str (pa_cons pe_str (pa_cons pe_str (pa_cons pe_str (pa_cons pe_str pa_nil)))))))))))
      (pss_cons (ps_if (PW.pt (pw_or (pt_cmpR op_ne (pe_bm PySem.F.plainAttrs_list PySem.F.slot_list_count PySem.F.type_list_count mt_countF (pv 2) (pa_cons pe_bl pa_nil)) pe_int (nomark _)) (pw_or1 (pt_not (pt_val (pe_callB isE rfl g_isinstance (by decide +kernel) (pa_cons (pv 1) (pa_cons (pe_bltn (v := .ty "ValueError") rfl g_ValueError (by decide +kernel) rfl) pa_nil)))))))) (pss_one (ps_ret pe_str)) pss_nil)
      (pss_cons (ps_set (i := 4) sc__law_kind.nd rfl (Or.inl rfl) (pe_bm PySem.F.plainAttrs_list PySem.F.slot_list_index PySem.F.type_list_index mt_index (pv 2) (pa_cons pe_bl pa_nil)))
      (pss_cons (ps_if (pt_cmpR op_lt (pv 4) pe_int (nomark _)) (pss_one (ps_ret (pe_ix ix_list (pv 3) (pv 4) (fun _ _ => rfl)))) pss_nil)
      (pss_one (ps_ret (pe_ifExp (pt_cmpR op_lt (pv 4) pe_int (nomark _)) (pe_tup (pa_cons (pe_ix ix_list (pv 3) (pv 4) (fun _ _ => rfl)) (pa_cons (pe_xf xfc xno_number hz hf (pv 1)) pa_nil))) pe_never)))))))))), ?_⟩
      have nd : ∀ y ∈ nine, PySem.W.kitOne X.K (.ref (He.ga X.K x)) (.ref (He.ga X.K y)) = some (decide (x = y)) := (KT x hx).k.i
      refine ⟨_, rfl, _, _, _, _, rfl, fun _ r => r, (KT x hx).k.i "BadDeed" (by decide +kernel), hd, _, rfl, _, _, _, _, rfl, fun _ r => r, (KT x hx).k.i "BadReach" (by decide +kernel), hd, _, rfl, _, _, _, _, rfl, fun _ r => r, (KT x hx).k.i "NoDeed" (by decide +kernel), hd, _, rfl, _, _, _, _, rfl, fun _ r => r, (KT x hx).k.i "BadCount" (by decide +kernel), hd, line5 (by simp), fun p1 hp1 => ?_⟩
      have s1 : Same H' (upd H' p1 (.lst [.bl (decide (x = "BadDeed")), .bl (decide (x = "BadReach")), .bl (decide (x = "NoDeed")), .bl (decide (x = "BadCount"))])) := Same.add hp1
      have e1 : (upd H' p1 (.lst [.bl (decide (x = "BadDeed")), .bl (decide (x = "BadReach")), .bl (decide (x = "NoDeed")), .bl (decide (x = "BadCount"))])) p1 = some (.lst [.bl (decide (x = "BadDeed")), .bl (decide (x = "BadReach")), .bl (decide (x = "NoDeed")), .bl (decide (x = "BadCount"))]) := upd_same
      generalize upd H' p1 (.lst [.bl (decide (x = "BadDeed")), .bl (decide (x = "BadReach")), .bl (decide (x = "NoDeed")), .bl (decide (x = "BadCount"))]) = H1 at s1 e1 ⊢
      have hd1 := s1 _ _ hd
      refine ⟨_, rfl, _, rfl, _, _, _, _, rfl, fun _ r => r, (KT x hx).k.i "NoMend" (by decide +kernel), hd1, _, rfl, _, _, _, _, rfl, fun _ r => r, (KT x hx).k.i "BadImage" (by decide +kernel), hd1, _, rfl, _, _, _, _, rfl, fun _ r => r, (KT x hx).k.i "BadGiven" (by decide +kernel), hd1, line5 (by simp), fun p2 hp2 => ?_⟩
      have s2 : Same H1 (upd H1 p2 (.lst [.bl (decide (x = "NoMend")), .bl (decide (x = "BadImage")), .bl (decide (x = "BadGiven"))])) := Same.add hp2
      have e2 : (upd H1 p2 (.lst [.bl (decide (x = "NoMend")), .bl (decide (x = "BadImage")), .bl (decide (x = "BadGiven"))])) p2 = some (.lst [.bl (decide (x = "NoMend")), .bl (decide (x = "BadImage")), .bl (decide (x = "BadGiven"))]) := upd_same
      generalize upd H1 p2 (.lst [.bl (decide (x = "NoMend")), .bl (decide (x = "BadImage")), .bl (decide (x = "BadGiven"))]) = H2 at s2 e2 ⊢
      have hd2 := s2 _ _ hd1
      refine ⟨_, _, _, _, rfl, rfl, s2 _ _ e1, e2, line5 (by simp), fun p3 hp3 => ?_⟩
      have s3 : Same H2 (upd H2 p3 (.lst ([.bl (decide (x = "BadDeed")), .bl (decide (x = "BadReach")), .bl (decide (x = "NoDeed")), .bl (decide (x = "BadCount"))] ++ [.bl (decide (x = "NoMend")), .bl (decide (x = "BadImage")), .bl (decide (x = "BadGiven"))]))) := Same.add hp3
      have e3 : (upd H2 p3 (.lst ([.bl (decide (x = "BadDeed")), .bl (decide (x = "BadReach")), .bl (decide (x = "NoDeed")), .bl (decide (x = "BadCount"))] ++ [.bl (decide (x = "NoMend")), .bl (decide (x = "BadImage")), .bl (decide (x = "BadGiven"))]))) p3 = some (.lst ([.bl (decide (x = "BadDeed")), .bl (decide (x = "BadReach")), .bl (decide (x = "NoDeed")), .bl (decide (x = "BadCount"))] ++ [.bl (decide (x = "NoMend")), .bl (decide (x = "BadImage")), .bl (decide (x = "BadGiven"))])) := upd_same
      generalize upd H2 p3 (.lst ([.bl (decide (x = "BadDeed")), .bl (decide (x = "BadReach")), .bl (decide (x = "NoDeed")), .bl (decide (x = "BadCount"))] ++ [.bl (decide (x = "NoMend")), .bl (decide (x = "BadImage")), .bl (decide (x = "BadGiven"))])) = H3 at s3 e3 ⊢
      have hd3 := s3 _ _ hd2
      refine ⟨_, rfl, _, rfl, _, _, _, _, rfl, fun _ r => r, (KT x hx).k.i "BadList" (by decide +kernel), hd3, _, rfl, _, _, _, _, rfl, fun _ r => r, (KT x hx).k.i "BadRow" (by decide +kernel), hd3, line5 (by simp), fun p4 hp4 => ?_⟩
      have s4 : Same H3 (upd H3 p4 (.lst [.bl (decide (x = "BadList")), .bl (decide (x = "BadRow"))])) := Same.add hp4
      have e4 : (upd H3 p4 (.lst [.bl (decide (x = "BadList")), .bl (decide (x = "BadRow"))])) p4 = some (.lst [.bl (decide (x = "BadList")), .bl (decide (x = "BadRow"))]) := upd_same
      generalize upd H3 p4 (.lst [.bl (decide (x = "BadList")), .bl (decide (x = "BadRow"))]) = H4 at s4 e4 ⊢
      have hd4 := s4 _ _ hd3
      refine ⟨_, _, _, _, rfl, rfl, s4 _ _ e3, e4, line5 (by simp), fun p5 hp5 => ?_⟩
      have s5 : Same H4 (upd H4 p5 (.lst ([.bl (decide (x = "BadDeed")), .bl (decide (x = "BadReach")), .bl (decide (x = "NoDeed")), .bl (decide (x = "BadCount"))] ++ [.bl (decide (x = "NoMend")), .bl (decide (x = "BadImage")), .bl (decide (x = "BadGiven"))] ++ [.bl (decide (x = "BadList")), .bl (decide (x = "BadRow"))]))) := Same.add hp5
      have e5 : (upd H4 p5 (.lst ([.bl (decide (x = "BadDeed")), .bl (decide (x = "BadReach")), .bl (decide (x = "NoDeed")), .bl (decide (x = "BadCount"))] ++ [.bl (decide (x = "NoMend")), .bl (decide (x = "BadImage")), .bl (decide (x = "BadGiven"))] ++ [.bl (decide (x = "BadList")), .bl (decide (x = "BadRow"))]))) p5 = some (.lst (kinds x)) := upd_same
      generalize upd H4 p5 (.lst ([.bl (decide (x = "BadDeed")), .bl (decide (x = "BadReach")), .bl (decide (x = "NoDeed")), .bl (decide (x = "BadCount"))] ++ [.bl (decide (x = "NoMend")), .bl (decide (x = "BadImage")), .bl (decide (x = "BadGiven"))] ++ [.bl (decide (x = "BadList")), .bl (decide (x = "BadRow"))])) = H5 at s5 e5 ⊢
      refine ⟨line5 (by simp), fun p6 hp6 => ?_⟩
      have s6 : Same H5 (upd H5 p6 (.lst [.str "BadDeed", .str "BadReach", .str "NoDeed", .str "BadCount", .str "NoMend", .str "BadImage", .str "BadGiven", .str "BadList", .str "BadRow"])) := Same.add hp6
      have e6 : (upd H5 p6 (.lst [.str "BadDeed", .str "BadReach", .str "NoDeed", .str "BadCount", .str "NoMend", .str "BadImage", .str "BadGiven", .str "BadList", .str "BadRow"])) p6 = some (.lst [.str "BadDeed", .str "BadReach", .str "NoDeed", .str "BadCount", .str "NoMend", .str "BadImage", .str "BadGiven", .str "BadList", .str "BadRow"]) := upd_same
      generalize upd H5 p6 (.lst [.str "BadDeed", .str "BadReach", .str "NoDeed", .str "BadCount", .str "NoMend", .str "BadImage", .str "BadGiven", .str "BadList", .str "BadRow"]) = H6 at s6 e6 ⊢
      have hd6 := s6 _ _ (s5 _ _ hd4)
      have hk6 := SqL.of (K := X.K) (s6 _ _ e5)
      have hff : (kinds x).all flatV = true := rfl
      refine ⟨_, rfl, ?ty, p5, kinds x, .bl true, rfl, rfl, hk6, rfl, hff, ?_⟩
      case ty => exact .inl ⟨rfl, _, hk6⟩
      rw [kinds_count3 x hx]
      obtain ⟨j, hj8, hj5, hj, hjm, hj9⟩ := kinds_at3 x hx
      refine ⟨rfl, _, rfl, iteF ⟨_, rfl, _, _, _, _, rfl, fun _ r => r, (KT x hx).k.v, hd6, _, rfl, iteF ?_⟩⟩
      refine ⟨_, rfl, .inl ⟨rfl, _, hk6⟩, p5, kinds x, .bl true, j, .bl true, rfl, rfl, hk6, rfl, hff, hj, rfl, fun m z hm hz => ?_, ?_⟩
      · rw [hjm m hm] at hz
        cases hz
        rfl
      · refine ⟨_, rfl, _, _, rfl, rfl, _, rfl, ?_⟩
        rw [decide_eq_false (show ¬ (j : Int) < 5 by omega)]
        refine iteF ⟨_, rfl, _, _, rfl, rfl, _, rfl, ?_⟩
        rw [decide_eq_true (show (j : Int) < 8 by omega)]
        have h9 : (nine.map V.str)[j]? = some (.str x) := by rw [List.getElem?_map, hj9]; rfl
        refine iteT ⟨_, rfl, _, rfl, _, _, _, _, rfl, rfl, SqL.of e6, atI_nat h9, _, rfl, rfl, rfl, dd, _, _, rfl, hd6, rfl, line5 (by simp), fun r hr => ?_⟩
        exact hq r _ (Same.trans s1 (Same.trans s2 (Same.trans s3 (Same.trans s4 (Same.trans s5 (Same.trans s6 (Same.add hr))))))) upd_same
    have isE := call_isE (X := (cxOf C8.CX0 X.prog X.w X.K X.mg X.base N__law_kind "_law_kind" (defScope s__law_kind) g cdg X.A X.stack s H C8.E0).nox) (a := a) (pn := pn) (KF x hx).c hz hf
    refine ⟨_, (pss_cons (ps_set (i := 2) sc__law_kind.nd rfl (Or.inl rfl) (pe_lst (pa_cons (pe_callB isE rfl g_isinstance (by decide +kernel) (pa_cons (pv 1) (pa_cons (pe_glob (v := .ref (He.ga X.K "BadDeed")) rfl g_BadDeed rfl) pa_nil))) (pa_cons (pe_callB isE rfl g_isinstance (by decide +kernel) (pa_cons (pv 1) (pa_cons (pe_glob (v := .ref (He.ga X.K "BadReach")) rfl g_BadReach rfl) pa_nil))) (pa_cons (pe_callB isE rfl g_isinstance (by decide +kernel) (pa_cons (pv 1) (pa_cons (pe_glob (v := .ref (He.ga X.K "NoDeed")) rfl g_NoDeed rfl) pa_nil))) (pa_cons (pe_callB isE rfl g_isinstance (by decide +kernel) (pa_cons (pv 1) (pa_cons (pe_glob (v := .ref (He.ga X.K "BadCount")) rfl g_BadCount rfl) pa_nil))) pa_nil))))))
      (pss_cons (ps_set (i := 2) sc__law_kind.nd rfl (Or.inl rfl) (pe_op op_cat (pv 2) (pe_lst (pa_cons (pe_callB isE rfl g_isinstance (by decide +kernel) (pa_cons (pv 1) (pa_cons (pe_glob (v := .ref (He.ga X.K "NoMend")) rfl g_NoMend rfl) pa_nil))) (pa_cons (pe_callB isE rfl g_isinstance (by decide +kernel) (pa_cons (pv 1) (pa_cons (pe_glob (v := .ref (He.ga X.K "BadImage")) rfl g_BadImage rfl) pa_nil))) (pa_cons (pe_callB isE rfl g_isinstance (by decide +kernel) (pa_cons (pv 1) (pa_cons (pe_glob (v := .ref (He.ga X.K "BadGiven")) rfl g_BadGiven rfl) pa_nil))) pa_nil))))))
      (pss_cons (ps_set (i := 2) sc__law_kind.nd rfl (Or.inl rfl) (pe_op op_cat (pv 2) (pe_lst (pa_cons (pe_callB isE rfl g_isinstance (by decide +kernel) (pa_cons (pv 1) (pa_cons (pe_glob (v := .ref (He.ga X.K "BadList")) rfl g_BadList rfl) pa_nil))) (pa_cons (pe_callB isE rfl g_isinstance (by decide +kernel) (pa_cons (pv 1) (pa_cons (pe_glob (v := .ref (He.ga X.K "BadRow")) rfl g_BadRow rfl) pa_nil))) pa_nil)))))
      (pss_cons (ps_set (i := 3) sc__law_kind.nd rfl (Or.inl rfl) (pe_lst (pa_cons pe_str (pa_cons pe_str (pa_cons pe_str (pa_cons pe_str (pa_cons pe_str (pa_cons pe_str (pa_cons pe_str (pa_cons pe_str (pa_cons pe_str pa_nil)))))))))))
      (pss_cons (ps_if (PW.pt (pw_or (pt_cmpR op_ne (pe_bm PySem.F.plainAttrs_list PySem.F.slot_list_count PySem.F.type_list_count mt_countF (pv 2) (pa_cons pe_bl pa_nil)) pe_int (nomark _)) (pw_or1 (pt_not (pt_val (pe_callB isE rfl g_isinstance (by decide +kernel) (pa_cons (pv 1) (pa_cons (pe_bltn (v := .ty "ValueError") rfl g_ValueError (by decide +kernel) rfl) pa_nil)))))))) (pss_one (ps_ret pe_str)) pss_nil)
      (pss_cons (ps_set (i := 4) sc__law_kind.nd rfl (Or.inl rfl) (pe_bm PySem.F.plainAttrs_list PySem.F.slot_list_index PySem.F.type_list_index mt_index (pv 2) (pa_cons pe_bl pa_nil)))
      (pss_cons (ps_if (pt_cmpR op_lt (pv 4) pe_int (nomark _)) (pss_one (ps_ret (pe_ix ix_list (pv 3) (pv 4) (fun _ _ => rfl)))) pss_nil)
      (pss_one ps_never)))))))), ?_⟩
    have nd : ∀ y ∈ nine, PySem.W.kitOne X.K (.ref (He.ga X.K x)) (.ref (He.ga X.K y)) = some (decide (x = y)) := (KF x hx).i
    refine ⟨_, rfl, _, _, _, rfl, fun _ r => r, (KF x hx).i "BadDeed" (by decide +kernel), _, rfl, _, _, _, rfl, fun _ r => r, (KF x hx).i "BadReach" (by decide +kernel), _, rfl, _, _, _, rfl, fun _ r => r, (KF x hx).i "NoDeed" (by decide +kernel), _, rfl, _, _, _, rfl, fun _ r => r, (KF x hx).i "BadCount" (by decide +kernel), line5 (by simp), fun p1 hp1 => ?_⟩
    have s1 : Same H' (upd H' p1 (.lst [.bl (decide (x = "BadDeed")), .bl (decide (x = "BadReach")), .bl (decide (x = "NoDeed")), .bl (decide (x = "BadCount"))])) := Same.add hp1
    have e1 : (upd H' p1 (.lst [.bl (decide (x = "BadDeed")), .bl (decide (x = "BadReach")), .bl (decide (x = "NoDeed")), .bl (decide (x = "BadCount"))])) p1 = some (.lst [.bl (decide (x = "BadDeed")), .bl (decide (x = "BadReach")), .bl (decide (x = "NoDeed")), .bl (decide (x = "BadCount"))]) := upd_same
    generalize upd H' p1 (.lst [.bl (decide (x = "BadDeed")), .bl (decide (x = "BadReach")), .bl (decide (x = "NoDeed")), .bl (decide (x = "BadCount"))]) = H1 at s1 e1 ⊢
    refine ⟨_, rfl, _, rfl, _, _, _, rfl, fun _ r => r, (KF x hx).i "NoMend" (by decide +kernel), _, rfl, _, _, _, rfl, fun _ r => r, (KF x hx).i "BadImage" (by decide +kernel), _, rfl, _, _, _, rfl, fun _ r => r, (KF x hx).i "BadGiven" (by decide +kernel), line5 (by simp), fun p2 hp2 => ?_⟩
    have s2 : Same H1 (upd H1 p2 (.lst [.bl (decide (x = "NoMend")), .bl (decide (x = "BadImage")), .bl (decide (x = "BadGiven"))])) := Same.add hp2
    have e2 : (upd H1 p2 (.lst [.bl (decide (x = "NoMend")), .bl (decide (x = "BadImage")), .bl (decide (x = "BadGiven"))])) p2 = some (.lst [.bl (decide (x = "NoMend")), .bl (decide (x = "BadImage")), .bl (decide (x = "BadGiven"))]) := upd_same
    generalize upd H1 p2 (.lst [.bl (decide (x = "NoMend")), .bl (decide (x = "BadImage")), .bl (decide (x = "BadGiven"))]) = H2 at s2 e2 ⊢
    refine ⟨_, _, _, _, rfl, rfl, s2 _ _ e1, e2, line5 (by simp), fun p3 hp3 => ?_⟩
    have s3 : Same H2 (upd H2 p3 (.lst ([.bl (decide (x = "BadDeed")), .bl (decide (x = "BadReach")), .bl (decide (x = "NoDeed")), .bl (decide (x = "BadCount"))] ++ [.bl (decide (x = "NoMend")), .bl (decide (x = "BadImage")), .bl (decide (x = "BadGiven"))]))) := Same.add hp3
    have e3 : (upd H2 p3 (.lst ([.bl (decide (x = "BadDeed")), .bl (decide (x = "BadReach")), .bl (decide (x = "NoDeed")), .bl (decide (x = "BadCount"))] ++ [.bl (decide (x = "NoMend")), .bl (decide (x = "BadImage")), .bl (decide (x = "BadGiven"))]))) p3 = some (.lst ([.bl (decide (x = "BadDeed")), .bl (decide (x = "BadReach")), .bl (decide (x = "NoDeed")), .bl (decide (x = "BadCount"))] ++ [.bl (decide (x = "NoMend")), .bl (decide (x = "BadImage")), .bl (decide (x = "BadGiven"))])) := upd_same
    generalize upd H2 p3 (.lst ([.bl (decide (x = "BadDeed")), .bl (decide (x = "BadReach")), .bl (decide (x = "NoDeed")), .bl (decide (x = "BadCount"))] ++ [.bl (decide (x = "NoMend")), .bl (decide (x = "BadImage")), .bl (decide (x = "BadGiven"))])) = H3 at s3 e3 ⊢
    refine ⟨_, rfl, _, rfl, _, _, _, rfl, fun _ r => r, (KF x hx).i "BadList" (by decide +kernel), _, rfl, _, _, _, rfl, fun _ r => r, (KF x hx).i "BadRow" (by decide +kernel), line5 (by simp), fun p4 hp4 => ?_⟩
    have s4 : Same H3 (upd H3 p4 (.lst [.bl (decide (x = "BadList")), .bl (decide (x = "BadRow"))])) := Same.add hp4
    have e4 : (upd H3 p4 (.lst [.bl (decide (x = "BadList")), .bl (decide (x = "BadRow"))])) p4 = some (.lst [.bl (decide (x = "BadList")), .bl (decide (x = "BadRow"))]) := upd_same
    generalize upd H3 p4 (.lst [.bl (decide (x = "BadList")), .bl (decide (x = "BadRow"))]) = H4 at s4 e4 ⊢
    refine ⟨_, _, _, _, rfl, rfl, s4 _ _ e3, e4, line5 (by simp), fun p5 hp5 => ?_⟩
    have s5 : Same H4 (upd H4 p5 (.lst ([.bl (decide (x = "BadDeed")), .bl (decide (x = "BadReach")), .bl (decide (x = "NoDeed")), .bl (decide (x = "BadCount"))] ++ [.bl (decide (x = "NoMend")), .bl (decide (x = "BadImage")), .bl (decide (x = "BadGiven"))] ++ [.bl (decide (x = "BadList")), .bl (decide (x = "BadRow"))]))) := Same.add hp5
    have e5 : (upd H4 p5 (.lst ([.bl (decide (x = "BadDeed")), .bl (decide (x = "BadReach")), .bl (decide (x = "NoDeed")), .bl (decide (x = "BadCount"))] ++ [.bl (decide (x = "NoMend")), .bl (decide (x = "BadImage")), .bl (decide (x = "BadGiven"))] ++ [.bl (decide (x = "BadList")), .bl (decide (x = "BadRow"))]))) p5 = some (.lst (kinds x)) := upd_same
    generalize upd H4 p5 (.lst ([.bl (decide (x = "BadDeed")), .bl (decide (x = "BadReach")), .bl (decide (x = "NoDeed")), .bl (decide (x = "BadCount"))] ++ [.bl (decide (x = "NoMend")), .bl (decide (x = "BadImage")), .bl (decide (x = "BadGiven"))] ++ [.bl (decide (x = "BadList")), .bl (decide (x = "BadRow"))])) = H5 at s5 e5 ⊢
    refine ⟨line5 (by simp), fun p6 hp6 => ?_⟩
    have s6 : Same H5 (upd H5 p6 (.lst [.str "BadDeed", .str "BadReach", .str "NoDeed", .str "BadCount", .str "NoMend", .str "BadImage", .str "BadGiven", .str "BadList", .str "BadRow"])) := Same.add hp6
    have e6 : (upd H5 p6 (.lst [.str "BadDeed", .str "BadReach", .str "NoDeed", .str "BadCount", .str "NoMend", .str "BadImage", .str "BadGiven", .str "BadList", .str "BadRow"])) p6 = some (.lst [.str "BadDeed", .str "BadReach", .str "NoDeed", .str "BadCount", .str "NoMend", .str "BadImage", .str "BadGiven", .str "BadList", .str "BadRow"]) := upd_same
    generalize upd H5 p6 (.lst [.str "BadDeed", .str "BadReach", .str "NoDeed", .str "BadCount", .str "NoMend", .str "BadImage", .str "BadGiven", .str "BadList", .str "BadRow"]) = H6 at s6 e6 ⊢
    have hk6 := SqL.of (K := X.K) (s6 _ _ e5)
    have hff : (kinds x).all flatV = true := rfl
    refine ⟨_, rfl, ?ty, p5, kinds x, .bl true, rfl, rfl, hk6, rfl, hff, ?_⟩
    case ty => exact .inl ⟨rfl, _, hk6⟩
    rw [kinds_count x hx]
    obtain ⟨j, hj5, hj, hjm, hj9⟩ := kinds_at x hx
    refine ⟨rfl, _, rfl, iteF ⟨_, rfl, _, _, _, rfl, fun _ r => r, (KF x hx).v, _, rfl, iteF ?_⟩⟩
    refine ⟨_, rfl, .inl ⟨rfl, _, hk6⟩, p5, kinds x, .bl true, j, .bl true, rfl, rfl, hk6, rfl, hff, hj, rfl, fun m z hm hz => ?_, ?_⟩
    · rw [hjm m hm] at hz
      cases hz
      rfl
    · refine ⟨_, rfl, _, _, rfl, rfl, _, rfl, ?_⟩
      rw [decide_eq_true (show (j : Int) < 5 by omega)]
      refine iteT ?_
      have h9 : (nine.map V.str)[j]? = some (.str x) := by rw [List.getElem?_map, hj9]; rfl
      refine ⟨_, rfl, _, rfl, _, _, _, _, rfl, rfl, SqL.of e6, atI_nat h9, ?_⟩
      exact hq H6 (Same.trans s1 (Same.trans s2 (Same.trans s3 (Same.trans s4 (Same.trans s5 s6)))))
  · exact ⟨KindOf X.K Q, fun cls d σ' H' hk => ⟨true, by
      rcases hk with ⟨x, hx, e1, _⟩ | ⟨x, hx, e1, _⟩
      · rw [e1]; exact (KF x hx).m
      · rw [e1]; exact (KT x hx).k.m, fun _ a _ => ⟨⟨σ', rfl⟩, hk⟩, fun z => by cases z⟩, rfl, hc, h⟩
end
end Bm
set_option maxHeartbeats 800000
namespace Bm
open PySem PySem.Spec PyProof.Rows L2
/-! the kind of what texts refuse: a row's number and why -/
def kindRB (K : PySem.W.Frag) : Bool := kind1B K "BadRow" && (xfB K (He.ga K "BadRow") && (He.eqO (PySem.W.findIn K (.ref (He.ga K "BadRow")) "row") (some none) && He.eqO (PySem.W.findIn K (.ref (He.ga K "BadRow")) "why") (some none)))
structure KindRw (K : PySem.W.Frag) : Prop where
  k : Kind1 K "BadRow"
  f : XfC K (He.ga K "BadRow")
  r : PySem.W.findIn K (.ref (He.ga K "BadRow")) "row" = some none
  w : PySem.W.findIn K (.ref (He.ga K "BadRow")) "why" = some none
theorem kindR_of {K : PySem.W.Frag} (h : kindRB K = true) : KindRw K := by
  obtain ⟨h1, h⟩ := He.ba h
  obtain ⟨h2, h⟩ := He.ba h
  obtain ⟨h3, h4⟩ := He.ba h
  exact ⟨kind1_ok h1, xfB_ok h2, He.eqO_ok h3, He.eqO_ok h4⟩
section
variable {X : Cx}
/-- what a call of _law_kind makes of the work's reading: a tuple of the word, the row and why -/
def KindOfR (K : PySem.W.Frag) (Q : VK) : XK := fun cls d H' => cls = .ref (He.ga K "BadRow") ∧ ∃ (dd : Addr) (n : Int) (y : Str), d = some dd ∧ H' dd = some (.xd [("why", .str y), ("row", .int n)]) ∧ ∀ r H'', Same H' H'' → H'' r = some (.tup [.str "BadRow", .int n, .str y]) → Q (.ref r) H''
def TKindR (K : PySem.W.Frag) : (XK → Hp → VK → Prop) → Hp → VK → Prop := fun tl H Q => tl (KindOfR K Q) H Q
theorem kinds_countR : (kinds "BadRow").countP (fun z => eqV z (.bl true)) = 1 := by decide +kernel
theorem kinds_atR : (kinds "BadRow")[8]? = some (.bl true) ∧ (∀ m, m < 8 → (kinds "BadRow")[m]? = some (.bl false)) ∧ nine[8]? = some ("BadRow" : Str) := by decide +kernel
theorem kind_givesR {g : Addr} {cdg : Value} {q : Str} (KR : KindRw X.K) (g_MillError : X.mg "MillError" = some (.ref (He.ga X.K "MillError"))) (g_isinstance : X.mg "isinstance" = none) (g_ValueError : X.mg "ValueError" = none)
    (g_BadDeed : X.mg "BadDeed" = some (.ref (He.ga X.K "BadDeed"))) (g_BadReach : X.mg "BadReach" = some (.ref (He.ga X.K "BadReach"))) (g_NoDeed : X.mg "NoDeed" = some (.ref (He.ga X.K "NoDeed"))) (g_BadCount : X.mg "BadCount" = some (.ref (He.ga X.K "BadCount"))) (g_NoMend : X.mg "NoMend" = some (.ref (He.ga X.K "NoMend")))
    (g_BadImage : X.mg "BadImage" = some (.ref (He.ga X.K "BadImage"))) (g_BadGiven : X.mg "BadGiven" = some (.ref (He.ga X.K "BadGiven"))) (g_BadList : X.mg "BadList" = some (.ref (He.ga X.K "BadList"))) (g_BadRow : X.mg "BadRow" = some (.ref (He.ga X.K "BadRow"))) :
    LamX.GivesTo X N__law_kind "_law_kind" (defScope s__law_kind) g cdg (defBody s__law_kind) "_law_work" q (TKindR X.K) := by
  intro f c' s H Q tl act hc h
  refine ⟨_, pss_one (ps_try_as (X := (cxOf C8.CX0 X.prog X.w X.K X.mg X.base N__law_kind "_law_kind" (defScope s__law_kind) g cdg X.A X.stack s H C8.E0).nox) (i := 1) (n := "e") (c := .ref (He.ga X.K "MillError")) (Wout := fun _ _ _ _ => False)
      (tb := fun W D σ H => ∃ Ech : XK, (∀ cls d σ' H', Ech cls d H' → W cls d σ' H') ∧ σ[0]? = some (some (.ref f)) ∧ H c' = some (LamX.CodeO c' q) ∧ tl Ech H D.rt)
      (ts := fun a cls d D σ H => (∃ σ0 : L2.St, σ = σ0.set 1 (some (.ref a))) ∧ KindOfR X.K D.rt cls d H)
      rfl rfl sc__law_kind.nd rfl rfl ⟨rfl, by decide, .inl g_MillError⟩ LamX.takes0 (fun W pn xe tk _ => ?_) (fun a oe cls d pn hz hf => ?_)), ?_⟩
  · refine pss_cases fun D σ H' _ h' => ?_
    rcases h' with ⟨Eout, hE, g1, g2, g3⟩
    exact ⟨_, pss_one (ps_ret (act W pn xe Eout _ _ tk hE)), g1, g2, g3⟩
  · refine pss_cases fun D' σ' H' hl h' => ?_
    obtain ⟨⟨σ0, rfl⟩, h'⟩ := h'
    rw [List.length_set] at hl
    obtain ⟨o0, o1, o2, o3, o4, rfl⟩ := len5 hl
    obtain ⟨rfl, dd, n, y, rfl, hd, hq⟩ := h'
    have xfc := KR.f
    have xno_row := KR.r
    have xno_why := KR.w
    have isE := call_isX (X := (cxOf C8.CX0 X.prog X.w X.K X.mg X.base N__law_kind "_law_kind" (defScope s__law_kind) g cdg X.A X.stack s H C8.E0).nox) (a := a) (pn := pn) KR.k.c hz hf
    refine ⟨_, (pss_cons (ps_set (i := 2) sc__law_kind.nd rfl (Or.inl rfl) (pe_lst (pa_cons (pe_callB isE rfl g_isinstance (by decide +kernel) (pa_cons (pv 1) (pa_cons (pe_glob (v := .ref (He.ga X.K "BadDeed")) rfl g_BadDeed rfl) pa_nil))) (pa_cons (pe_callB isE rfl g_isinstance (by decide +kernel) (pa_cons (pv 1) (pa_cons (pe_glob (v := .ref (He.ga X.K "BadReach")) rfl g_BadReach rfl) pa_nil))) (pa_cons (pe_callB isE rfl g_isinstance (by decide +kernel) (pa_cons (pv 1) (pa_cons (pe_glob (v := .ref (He.ga X.K "NoDeed")) rfl g_NoDeed rfl) pa_nil))) (pa_cons (pe_callB isE rfl g_isinstance (by decide +kernel) (pa_cons (pv 1) (pa_cons (pe_glob (v := .ref (He.ga X.K "BadCount")) rfl g_BadCount rfl) pa_nil))) pa_nil))))))
      (pss_cons (ps_set (i := 2) sc__law_kind.nd rfl (Or.inl rfl) (pe_op op_cat (pv 2) (pe_lst (pa_cons (pe_callB isE rfl g_isinstance (by decide +kernel) (pa_cons (pv 1) (pa_cons (pe_glob (v := .ref (He.ga X.K "NoMend")) rfl g_NoMend rfl) pa_nil))) (pa_cons (pe_callB isE rfl g_isinstance (by decide +kernel) (pa_cons (pv 1) (pa_cons (pe_glob (v := .ref (He.ga X.K "BadImage")) rfl g_BadImage rfl) pa_nil))) (pa_cons (pe_callB isE rfl g_isinstance (by decide +kernel) (pa_cons (pv 1) (pa_cons (pe_glob (v := .ref (He.ga X.K "BadGiven")) rfl g_BadGiven rfl) pa_nil))) pa_nil))))))
      (pss_cons (ps_set (i := 2) sc__law_kind.nd rfl (Or.inl rfl) (pe_op op_cat (pv 2) (pe_lst (pa_cons (pe_callB isE rfl g_isinstance (by decide +kernel) (pa_cons (pv 1) (pa_cons (pe_glob (v := .ref (He.ga X.K "BadList")) rfl g_BadList rfl) pa_nil))) (pa_cons (pe_callB isE rfl g_isinstance (by decide +kernel) (pa_cons (pv 1) (pa_cons (pe_glob (v := .ref (He.ga X.K "BadRow")) rfl g_BadRow rfl) pa_nil))) pa_nil)))))
      (pss_cons (ps_set (i := 3) sc__law_kind.nd rfl (Or.inl rfl) (pe_lst (pa_cons pe_str (pa_cons pe_str (pa_cons pe_str (pa_cons pe_str (pa_cons pe_str (pa_cons pe_str (pa_cons pe_str (pa_cons pe_str (pa_cons pe_str pa_nil)))))))))))
      (pss_cons (ps_if (PW.pt (pw_or (pt_cmpR op_ne (pe_bm PySem.F.plainAttrs_list PySem.F.slot_list_count PySem.F.type_list_count mt_countF (pv 2) (pa_cons pe_bl pa_nil)) pe_int (nomark _)) (pw_or1 (pt_not (pt_val (pe_callB isE rfl g_isinstance (by decide +kernel) (pa_cons (pv 1) (pa_cons (pe_bltn (v := .ty "ValueError") rfl g_ValueError (by decide +kernel) rfl) pa_nil)))))))) (pss_one (ps_ret pe_str)) pss_nil)
      (pss_cons (ps_set (i := 4) sc__law_kind.nd rfl (Or.inl rfl) (pe_bm PySem.F.plainAttrs_list PySem.F.slot_list_index PySem.F.type_list_index mt_index (pv 2) (pa_cons pe_bl pa_nil)))
      (pss_cons (ps_if (pt_cmpR op_lt (pv 4) pe_int (nomark _)) (pss_one (ps_ret (pe_ix ix_list (pv 3) (pv 4) (fun _ _ => rfl)))) pss_nil)
      (pss_one (ps_ret (pe_ifExp (pt_cmpR op_lt (pv 4) pe_int (nomark _)) pe_never (pe_tup (pa_cons (pe_ix ix_list (pv 3) (pv 4) (fun _ _ => rfl)) (pa_cons (pe_xf xfc xno_row hz hf (pv 1)) (pa_cons (pe_xf xfc xno_why hz hf (pv 1)) pa_nil)))))))))))))), ?_⟩
    have nd : ∀ y ∈ nine, PySem.W.kitOne X.K (.ref (He.ga X.K "BadRow")) (.ref (He.ga X.K y)) = some (decide (("BadRow" : Str) = y)) := KR.k.i
    refine ⟨_, rfl, _, _, _, _, rfl, fun _ r => r, KR.k.i "BadDeed" (by decide +kernel), hd, _, rfl, _, _, _, _, rfl, fun _ r => r, KR.k.i "BadReach" (by decide +kernel), hd, _, rfl, _, _, _, _, rfl, fun _ r => r, KR.k.i "NoDeed" (by decide +kernel), hd, _, rfl, _, _, _, _, rfl, fun _ r => r, KR.k.i "BadCount" (by decide +kernel), hd, line5 (by simp), fun p1 hp1 => ?_⟩
    have s1 : Same H' (upd H' p1 (.lst [.bl (decide (("BadRow" : Str) = "BadDeed")), .bl (decide (("BadRow" : Str) = "BadReach")), .bl (decide (("BadRow" : Str) = "NoDeed")), .bl (decide (("BadRow" : Str) = "BadCount"))])) := Same.add hp1
    have e1 : (upd H' p1 (.lst [.bl (decide (("BadRow" : Str) = "BadDeed")), .bl (decide (("BadRow" : Str) = "BadReach")), .bl (decide (("BadRow" : Str) = "NoDeed")), .bl (decide (("BadRow" : Str) = "BadCount"))])) p1 = some (.lst [.bl (decide (("BadRow" : Str) = "BadDeed")), .bl (decide (("BadRow" : Str) = "BadReach")), .bl (decide (("BadRow" : Str) = "NoDeed")), .bl (decide (("BadRow" : Str) = "BadCount"))]) := upd_same
    generalize upd H' p1 (.lst [.bl (decide (("BadRow" : Str) = "BadDeed")), .bl (decide (("BadRow" : Str) = "BadReach")), .bl (decide (("BadRow" : Str) = "NoDeed")), .bl (decide (("BadRow" : Str) = "BadCount"))]) = H1 at s1 e1 ⊢
    have hd1 := s1 _ _ hd
    refine ⟨_, rfl, _, rfl, _, _, _, _, rfl, fun _ r => r, KR.k.i "NoMend" (by decide +kernel), hd1, _, rfl, _, _, _, _, rfl, fun _ r => r, KR.k.i "BadImage" (by decide +kernel), hd1, _, rfl, _, _, _, _, rfl, fun _ r => r, KR.k.i "BadGiven" (by decide +kernel), hd1, line5 (by simp), fun p2 hp2 => ?_⟩
    have s2 : Same H1 (upd H1 p2 (.lst [.bl (decide (("BadRow" : Str) = "NoMend")), .bl (decide (("BadRow" : Str) = "BadImage")), .bl (decide (("BadRow" : Str) = "BadGiven"))])) := Same.add hp2
    have e2 : (upd H1 p2 (.lst [.bl (decide (("BadRow" : Str) = "NoMend")), .bl (decide (("BadRow" : Str) = "BadImage")), .bl (decide (("BadRow" : Str) = "BadGiven"))])) p2 = some (.lst [.bl (decide (("BadRow" : Str) = "NoMend")), .bl (decide (("BadRow" : Str) = "BadImage")), .bl (decide (("BadRow" : Str) = "BadGiven"))]) := upd_same
    generalize upd H1 p2 (.lst [.bl (decide (("BadRow" : Str) = "NoMend")), .bl (decide (("BadRow" : Str) = "BadImage")), .bl (decide (("BadRow" : Str) = "BadGiven"))]) = H2 at s2 e2 ⊢
    have hd2 := s2 _ _ hd1
    refine ⟨_, _, _, _, rfl, rfl, s2 _ _ e1, e2, line5 (by simp), fun p3 hp3 => ?_⟩
    have s3 : Same H2 (upd H2 p3 (.lst ([.bl (decide (("BadRow" : Str) = "BadDeed")), .bl (decide (("BadRow" : Str) = "BadReach")), .bl (decide (("BadRow" : Str) = "NoDeed")), .bl (decide (("BadRow" : Str) = "BadCount"))] ++ [.bl (decide (("BadRow" : Str) = "NoMend")), .bl (decide (("BadRow" : Str) = "BadImage")), .bl (decide (("BadRow" : Str) = "BadGiven"))]))) := Same.add hp3
    have e3 : (upd H2 p3 (.lst ([.bl (decide (("BadRow" : Str) = "BadDeed")), .bl (decide (("BadRow" : Str) = "BadReach")), .bl (decide (("BadRow" : Str) = "NoDeed")), .bl (decide (("BadRow" : Str) = "BadCount"))] ++ [.bl (decide (("BadRow" : Str) = "NoMend")), .bl (decide (("BadRow" : Str) = "BadImage")), .bl (decide (("BadRow" : Str) = "BadGiven"))]))) p3 = some (.lst ([.bl (decide (("BadRow" : Str) = "BadDeed")), .bl (decide (("BadRow" : Str) = "BadReach")), .bl (decide (("BadRow" : Str) = "NoDeed")), .bl (decide (("BadRow" : Str) = "BadCount"))] ++ [.bl (decide (("BadRow" : Str) = "NoMend")), .bl (decide (("BadRow" : Str) = "BadImage")), .bl (decide (("BadRow" : Str) = "BadGiven"))])) := upd_same
    generalize upd H2 p3 (.lst ([.bl (decide (("BadRow" : Str) = "BadDeed")), .bl (decide (("BadRow" : Str) = "BadReach")), .bl (decide (("BadRow" : Str) = "NoDeed")), .bl (decide (("BadRow" : Str) = "BadCount"))] ++ [.bl (decide (("BadRow" : Str) = "NoMend")), .bl (decide (("BadRow" : Str) = "BadImage")), .bl (decide (("BadRow" : Str) = "BadGiven"))])) = H3 at s3 e3 ⊢
    have hd3 := s3 _ _ hd2
    refine ⟨_, rfl, _, rfl, _, _, _, _, rfl, fun _ r => r, KR.k.i "BadList" (by decide +kernel), hd3, _, rfl, _, _, _, _, rfl, fun _ r => r, KR.k.i "BadRow" (by decide +kernel), hd3, line5 (by simp), fun p4 hp4 => ?_⟩
    have s4 : Same H3 (upd H3 p4 (.lst [.bl (decide (("BadRow" : Str) = "BadList")), .bl (decide (("BadRow" : Str) = "BadRow"))])) := Same.add hp4
    have e4 : (upd H3 p4 (.lst [.bl (decide (("BadRow" : Str) = "BadList")), .bl (decide (("BadRow" : Str) = "BadRow"))])) p4 = some (.lst [.bl (decide (("BadRow" : Str) = "BadList")), .bl (decide (("BadRow" : Str) = "BadRow"))]) := upd_same
    generalize upd H3 p4 (.lst [.bl (decide (("BadRow" : Str) = "BadList")), .bl (decide (("BadRow" : Str) = "BadRow"))]) = H4 at s4 e4 ⊢
    have hd4 := s4 _ _ hd3
    refine ⟨_, _, _, _, rfl, rfl, s4 _ _ e3, e4, line5 (by simp), fun p5 hp5 => ?_⟩
    have s5 : Same H4 (upd H4 p5 (.lst ([.bl (decide (("BadRow" : Str) = "BadDeed")), .bl (decide (("BadRow" : Str) = "BadReach")), .bl (decide (("BadRow" : Str) = "NoDeed")), .bl (decide (("BadRow" : Str) = "BadCount"))] ++ [.bl (decide (("BadRow" : Str) = "NoMend")), .bl (decide (("BadRow" : Str) = "BadImage")), .bl (decide (("BadRow" : Str) = "BadGiven"))] ++ [.bl (decide (("BadRow" : Str) = "BadList")), .bl (decide (("BadRow" : Str) = "BadRow"))]))) := Same.add hp5
    have e5 : (upd H4 p5 (.lst ([.bl (decide (("BadRow" : Str) = "BadDeed")), .bl (decide (("BadRow" : Str) = "BadReach")), .bl (decide (("BadRow" : Str) = "NoDeed")), .bl (decide (("BadRow" : Str) = "BadCount"))] ++ [.bl (decide (("BadRow" : Str) = "NoMend")), .bl (decide (("BadRow" : Str) = "BadImage")), .bl (decide (("BadRow" : Str) = "BadGiven"))] ++ [.bl (decide (("BadRow" : Str) = "BadList")), .bl (decide (("BadRow" : Str) = "BadRow"))]))) p5 = some (.lst (kinds "BadRow")) := upd_same
    generalize upd H4 p5 (.lst ([.bl (decide (("BadRow" : Str) = "BadDeed")), .bl (decide (("BadRow" : Str) = "BadReach")), .bl (decide (("BadRow" : Str) = "NoDeed")), .bl (decide (("BadRow" : Str) = "BadCount"))] ++ [.bl (decide (("BadRow" : Str) = "NoMend")), .bl (decide (("BadRow" : Str) = "BadImage")), .bl (decide (("BadRow" : Str) = "BadGiven"))] ++ [.bl (decide (("BadRow" : Str) = "BadList")), .bl (decide (("BadRow" : Str) = "BadRow"))])) = H5 at s5 e5 ⊢
    refine ⟨line5 (by simp), fun p6 hp6 => ?_⟩
    have s6 : Same H5 (upd H5 p6 (.lst [.str "BadDeed", .str "BadReach", .str "NoDeed", .str "BadCount", .str "NoMend", .str "BadImage", .str "BadGiven", .str "BadList", .str "BadRow"])) := Same.add hp6
    have e6 : (upd H5 p6 (.lst [.str "BadDeed", .str "BadReach", .str "NoDeed", .str "BadCount", .str "NoMend", .str "BadImage", .str "BadGiven", .str "BadList", .str "BadRow"])) p6 = some (.lst [.str "BadDeed", .str "BadReach", .str "NoDeed", .str "BadCount", .str "NoMend", .str "BadImage", .str "BadGiven", .str "BadList", .str "BadRow"]) := upd_same
    generalize upd H5 p6 (.lst [.str "BadDeed", .str "BadReach", .str "NoDeed", .str "BadCount", .str "NoMend", .str "BadImage", .str "BadGiven", .str "BadList", .str "BadRow"]) = H6 at s6 e6 ⊢
    have hd6 := s6 _ _ (s5 _ _ hd4)
    have hk6 := SqL.of (K := X.K) (s6 _ _ e5)
    have hff : (kinds "BadRow").all flatV = true := rfl
    refine ⟨_, rfl, ?ty, p5, kinds "BadRow", .bl true, rfl, rfl, hk6, rfl, hff, ?_⟩
    case ty => exact .inl ⟨rfl, _, hk6⟩
    rw [kinds_countR]
    obtain ⟨hj, hjm, hj9⟩ := kinds_atR
    refine ⟨rfl, _, rfl, iteF ⟨_, rfl, _, _, _, _, rfl, fun _ r => r, KR.k.v, hd6, _, rfl, iteF ?_⟩⟩
    refine ⟨_, rfl, .inl ⟨rfl, _, hk6⟩, p5, kinds "BadRow", .bl true, 8, .bl true, rfl, rfl, hk6, rfl, hff, hj, rfl, fun m z hm hz => ?_, ?_⟩
    · rw [hjm m hm] at hz
      cases hz
      rfl
    · refine ⟨_, rfl, _, _, rfl, rfl, _, rfl, ?_⟩
      refine iteF ⟨_, rfl, _, _, rfl, rfl, _, rfl, ?_⟩
      have h9 : (nine.map V.str)[8]? = some (.str "BadRow") := by rw [List.getElem?_map, hj9]; rfl
      refine iteF ⟨_, rfl, _, rfl, _, _, _, _, rfl, rfl, SqL.of e6, atI_nat (j := 8) h9, _, rfl, rfl, rfl, dd, _, _, rfl, hd6, rfl, _, rfl, rfl, rfl, dd, _, _, rfl, hd6, rfl, line5 (by simp), fun r hr => ?_⟩
      exact hq r _ (Same.trans s1 (Same.trans s2 (Same.trans s3 (Same.trans s4 (Same.trans s5 (Same.trans s6 (Same.add hr))))))) upd_same
  · exact ⟨KindOfR X.K Q, fun cls d σ' H' hk => ⟨true, by
      obtain ⟨e1, _⟩ := hk
      rw [e1]; exact KR.k.m, fun _ a _ => ⟨⟨σ', rfl⟩, hk⟩, fun z => by cases z⟩, rfl, hc, h⟩
end
end Bm
set_option maxHeartbeats 400000
/-! the head's run, looked at twice: what is looked at costs the kernel more than the run -/
namespace Bm
open PySem PySem.Spec PyProof.Rows HandSHeadRun PySem.W
theorem runEq_of {r : OpenRow} {q : Program} {H : Hook} {ob : SharedT → H.α} {M : Nat} {loose : List PySem.Str} {w : World}
    (ha : ∀ os : OsState, (endF (stepQ (denQ tabQ) r.prog w) M r.prog w os).map (fun s => (looksF r.prog (boot_heap w.params) s.abs, seenQ q loose (importedModules r.prog.main.body) (fun s => xlAt q [] s && recOk r.toRowW.records s) s.abs)) = some (true, openGood q loose))
    (hb : ∀ os : OsState, (endF (stepQ (denQ tabQ) r.prog w) M r.prog w os).map (fun s => ob s) = some (H.val w)) : RunEq r q H ob M loose w := fun os => by
  have a := ha os
  have b := hb os
  cases e : endF (stepQ (denQ tabQ) r.prog w) M r.prog w os with
  | none =>
    rw [e] at a
    cases a
  | some s =>
    rw [e] at a b
    simp only [Option.map_some, Option.some.injEq, Prod.mk.injEq] at a b ⊢
    exact ⟨a.1, a.2, b⟩
end Bm
set_option maxHeartbeats 0
namespace Bm
open PySem PySem.Spec PyProof.Rows L2
def tfL : List He.Defn := [("law", none)]
def FILE : Str := PySem.Challenge.pw_bitmill_k10_sums_reckoned.main.file
def exB (K : PySem.W.Frag) : Bool := conB [] K && (conRB K && (kindRB K && supB K FILE "BadRow" "BadRow.__init__"))
def LIM : Nat := 4
abbrev hk : PySem.W.Hook := hookI LIM faL fnL tsL tfL ciL exB
def ob (s : PySem.W.SharedT) : AlI := obsI LIM faL fnL tsL tfL ciL exB (HandSHeadRun.getT s)
theorem ob_eq (s : PySem.W.SharedT) : ob s = hk.obs s.abs := obsI_eq (HandSHeadRun.getT_eq s)
theorem run_f1 (w : World) : ∀ os : OsState, (HandSHeadRun.endF (HandSHeadRun.stepQ (HandSHeadRun.denQ HandSHeadRun.tabQ) R.prog (w.withFollow "special-get-raises" false)) 20000 R.prog (w.withFollow "special-get-raises" false) os).map (fun s => (HandSHeadRun.looksF R.prog (PySem.W.boot_heap (w.withFollow "special-get-raises" false).params) s.abs, HandSHeadRun.seenQ (PySem.W.view R.prog [LAWI]) looseL (importedModules R.prog.main.body) (fun s => PySem.W.xlAt (PySem.W.view R.prog [LAWI]) [] s && PySem.W.recOk R.toRowW.records s) s.abs)) = some (true, PySem.W.openGood (PySem.W.view R.prog [LAWI]) looseL) := by
  intro os
  kernel_rfl
theorem run_f2 (w : World) : ∀ os : OsState, (HandSHeadRun.endF (HandSHeadRun.stepQ (HandSHeadRun.denQ HandSHeadRun.tabQ) R.prog (w.withFollow "special-get-raises" false)) 20000 R.prog (w.withFollow "special-get-raises" false) os).map (fun s => ob s) = some (hk.val (w.withFollow "special-get-raises" false)) := by
  intro os
  kernel_rfl
theorem run_t1 (w : World) : ∀ os : OsState, (HandSHeadRun.endF (HandSHeadRun.stepQ (HandSHeadRun.denQ HandSHeadRun.tabQ) R.prog (w.withFollow "special-get-raises" true)) 20000 R.prog (w.withFollow "special-get-raises" true) os).map (fun s => (HandSHeadRun.looksF R.prog (PySem.W.boot_heap (w.withFollow "special-get-raises" true).params) s.abs, HandSHeadRun.seenQ (PySem.W.view R.prog [LAWI]) looseL (importedModules R.prog.main.body) (fun s => PySem.W.xlAt (PySem.W.view R.prog [LAWI]) [] s && PySem.W.recOk R.toRowW.records s) s.abs)) = some (true, PySem.W.openGood (PySem.W.view R.prog [LAWI]) looseL) := by
  intro os
  kernel_rfl
theorem run_t2 (w : World) : ∀ os : OsState, (HandSHeadRun.endF (HandSHeadRun.stepQ (HandSHeadRun.denQ HandSHeadRun.tabQ) R.prog (w.withFollow "special-get-raises" true)) 20000 R.prog (w.withFollow "special-get-raises" true) os).map (fun s => ob s) = some (hk.val (w.withFollow "special-get-raises" true)) := by
  intro os
  kernel_rfl
theorem run (w : World) : HandSHeadRun.RunEq R (PySem.W.view R.prog [LAWI]) hk ob 20000 looseL w :=
  PySem.W.byRow2 "special-get-raises" (P := fun w => HandSHeadRun.RunEq R (PySem.W.view R.prog [LAWI]) hk ob 20000 looseL w) (fun w => runEq_of (run_f1 w) (run_f2 w)) (fun w => runEq_of (run_t1 w) (run_t2 w)) w
end Bm
set_option maxHeartbeats 800000
namespace Bm
open PySem PySem.Spec PyProof.Rows L2
/-! the law's state: the script, how many cells are begun, a mixed number, what is left of a cell -/
structure Sk where
  st : Addr
  sc : Addr
  ns : List Int
def St (K : PySem.W.Frag) (H : Hp) (S : Sk) : Prop := S.ns.length ≤ 63 ∧ SqL K H S.sc (S.ns.map V.int) ∧ ∃ a m c : Int, H S.st = some (.lst [.ref S.sc, .int a, .int m, .int c]) ∧ 0 ≤ a ∧ (0 ≤ m ∧ m < 2147483647) ∧ 0 ≤ c
/-- all but the state stays, the state is one -/
structure Kp (K : PySem.W.Frag) (S : Sk) (H H' : Hp) : Prop where
  but : ∀ b o, b ≠ S.st → H b = some o → H' b = some o
  old : St K H S
  st : St K H' S
theorem St.lst {K : PySem.W.Frag} {H : Hp} {S : Sk} (h : St K H S) : ∃ l, H S.st = some (.lst l) := let ⟨_, _, _, _, _, h1, _⟩ := h; ⟨_, h1⟩
theorem St.same {K : PySem.W.Frag} {H H' : Hp} {S : Sk} (h : St K H S) (e : Same H H') : St K H' S := by
  obtain ⟨h0, h1, a, m, c, h2, h3⟩ := h
  exact ⟨h0, e.seq h1, a, m, c, e _ _ h2, h3⟩
theorem Kp.of {K : PySem.W.Frag} {H H' : Hp} {S : Sk} (h : St K H S) (e : Same H H') : Kp K S H H' := ⟨fun b o _ q => e b o q, h, h.same e⟩
theorem Kp.refl {K : PySem.W.Frag} {H : Hp} {S : Sk} (h : St K H S) : Kp K S H H := Kp.of h (Same.refl H)
theorem Kp.trans {K : PySem.W.Frag} {H H1 H2 : Hp} {S : Sk} (a : Kp K S H H1) (b : Kp K S H1 H2) : Kp K S H H2 := ⟨fun c o n q => b.but c o n (a.but c o n q), a.old, b.st⟩
theorem Kp.same {K : PySem.W.Frag} {H H1 H2 : Hp} {S : Sk} (a : Kp K S H H1) (e : Same H1 H2) : Kp K S H H2 := a.trans (Kp.of a.st e)
theorem Kp.tup {K : PySem.W.Frag} {H H' : Hp} {S : Sk} {p : Addr} {xs : List V} (k : Kp K S H H') (h : SqT K H p xs) : SqT K H' p xs := by
  obtain ⟨l, hl⟩ := k.old.lst
  rcases h with (h | ⟨o, h⟩) | h
  · exact .inl (.inl (k.but _ _ (fun z => by rw [z, hl] at h; cases h) h))
  · exact .inl (.inr ⟨o, k.but _ _ (fun z => by rw [z, hl] at h; cases h) h⟩)
  · exact .inr h
theorem Kp.lst {K : PySem.W.Frag} {H H' : Hp} {S : Sk} {p : Addr} {xs : List V} (k : Kp K S H H') (n : p ≠ S.st) (h : SqL K H p xs) : SqL K H' p xs := by
  rcases h with (h | ⟨o, h⟩) | h
  · exact .inl (.inl (k.but _ _ n h))
  · exact .inl (.inr ⟨o, k.but _ _ n h⟩)
  · exact .inr h
theorem Kp.free {K : PySem.W.Frag} {H H' : Hp} {S : Sk} {p : Addr} (k : Kp K S H H') (h : H' p = none) : H p = none := by
  cases q : H p with
  | none => rfl
  | some o =>
    by_cases e : p = S.st
    · obtain ⟨l, hl⟩ := k.st.lst
      rw [e, hl] at h
      cases h
    · rw [k.but p o e q] at h
      cases h
theorem Kp.add {K : PySem.W.Frag} {H H' : Hp} {S : Sk} {p : Addr} {o : HO} (k : Kp K S H H') (h : H' p = none) : Kp K S H (upd H' p o) := k.same (Same.add h)
theorem St.upd {K : PySem.W.Frag} {H : Hp} {S : Sk} {p : Addr} {o : HO} (h : St K H S) (n : p ≠ S.st) (np : ∀ u, H S.sc = some u → S.sc ≠ p) : St K (upd H p o) S := by
  obtain ⟨h0, h1, a, m, c, h2, h3⟩ := h
  refine ⟨h0, ?_, a, m, c, by rw [upd_ne (Ne.symm n)]; exact h2, h3⟩
  rcases h1 with (h | ⟨u, h⟩) | h
  · exact .inl (.inl (by rw [upd_ne (np _ h)]; exact h))
  · exact .inl (.inr ⟨u, by rw [upd_ne (np _ h)]; exact h⟩)
  · exact .inr h
/-- a thing that H does not know may change -/
theorem Kp.mut {K : PySem.W.Frag} {H H' : Hp} {S : Sk} {p : Addr} {o : HO} (k : Kp K S H H') (h : H p = none) : Kp K S H (upd H' p o) := by
  obtain ⟨l, hl⟩ := k.old.lst
  have n : p ≠ S.st := fun z => by
    rw [z, hl] at h
    cases h
  refine ⟨fun b u nb q => by rw [upd_ne (ne_of_none q h)]; exact k.but b u nb q, k.old, ?_⟩
  obtain ⟨h0, h1, h2⟩ := k.old
  obtain ⟨g0, g1, a, m, c, g2, g3⟩ := k.st
  refine ⟨g0, ?_, a, m, c, by rw [upd_ne (Ne.symm n)]; exact g2, g3⟩
  have h1' : SqL K (L2.upd H' p o) S.sc (S.ns.map V.int) := by
    rcases h1 with (h5 | ⟨u, h5⟩) | h5
    · have np : S.sc ≠ p := ne_of_none h5 h
      have ns : S.sc ≠ S.st := fun z => by
        obtain ⟨_, _, a, m, c, g, _⟩ := k.old
        rw [z, g] at h5
        have e := Option.some.inj h5
        cases e2 : S.ns with
        | nil => rw [e2] at e; cases e
        | cons x r => rw [e2] at e; cases e
      exact .inl (.inl (by rw [upd_ne np]; exact k.but _ _ ns h5))
    · have np : S.sc ≠ p := ne_of_none h5 h
      have ns : S.sc ≠ S.st := fun z => by
        rw [z, hl] at h5
        cases h5
      exact .inl (.inr ⟨u, by rw [upd_ne np]; exact k.but _ _ ns h5⟩)
    · exact .inr h5
  exact h1'
theorem Kp.put {K : PySem.W.Frag} {H : Hp} {S : Sk} {a m c : Int} (h : St K H S) (ha : 0 ≤ a) (hm : 0 ≤ m ∧ m < 2147483647) (hc : 0 ≤ c) : Kp K S H (upd H S.st (.lst [.ref S.sc, .int a, .int m, .int c])) := by
  obtain ⟨h0, h1, a0, m0, c0, h2, h3⟩ := id h
  refine ⟨fun b o n q => by rw [upd_ne n]; exact q, h, h0, ?_, a, m, c, upd_same, ha, hm, hc⟩
  rcases h1 with (h5 | ⟨u, h5⟩) | h5
  · have ns : S.sc ≠ S.st := fun z => by
      rw [z, h2] at h5
      have e := Option.some.inj h5
      cases e2 : S.ns with
      | nil => rw [e2] at e; cases e
      | cons x r => rw [e2] at e; cases e
    exact .inl (.inl (by rw [upd_ne ns]; exact h5))
  · have ns : S.sc ≠ S.st := fun z => by
      rw [z, h2] at h5
      cases h5
    exact .inl (.inr ⟨u, by rw [upd_ne ns]; exact h5⟩)
  · exact .inr h5
section
variable {P : Program} {w : World} {K : PySem.W.Frag} {mg : Str → Option Value} {base : Heap} {f : Addr} {fd : FuncData} {dvs : List V}
/-! _law_start -/
def spStart (K : PySem.W.Frag) : Sp := fun vs H Q _ => ∃ (a : Addr) (ns : List Int), vs = [.ref a] ∧ SqL K H a (ns.map V.int) ∧ ns.length ≤ 63 ∧ ∀ p H', H p = none → Same H H' → St K H' ⟨p, a, ns⟩ → Q (.ref p) H'
abbrev N__law_start : List Str := ["_law_script", "_law_mixed", "_law_cell"]
theorem sc__law_start : FnScope ["_law_script", "_law_mixed", "_law_cell"] ["_law_script"] (defScope s__law_start) := ⟨rfl, rfl, rfl, by decide +kernel, rfl, by decide +kernel, by decide +kernel⟩
theorem ok_start (F : FunD K "_law_start" "_law_start" (defArgs s__law_start) (defBody s__law_start) (defScope s__law_start) dvs [] f fd) : FnOk P w K mg base CX0 1 f fd ["_law_script"] (spStart K) := by
  refine F.ok sc__law_start (fun vs H Q E h => ?_) (fun cdv A outer s H vs Q E hr h => ?_)
  · obtain ⟨a, ns, rfl, _⟩ := h
    rfl
  · obtain ⟨a, ns, rfl, hS, h63, q⟩ := h
    refine ⟨_, PSs.nox (pss_cons (ps_set (i := 1) sc__law_start.nd rfl (Or.inl rfl) pe_int)
      (pss_cons (ps_for PassesOwn.never rfl (pi_list (pv 0)) (pg_name (i := 2) sc__law_start.nd rfl (Or.inl rfl))
      (pss_one (ps_set (i := 1) sc__law_start.nd rfl (Or.inl rfl) (pe_op op_modN (pe_op op_add (pe_op op_add (pe_op op_mul (pv 1) pe_int) (pv 2)) pe_int) pe_int))))
      (pss_one (ps_ret (pe_lst (pa_cons (pv 0) (pa_cons pe_int (pa_cons (pv 1) (pa_cons pe_int pa_nil))))))))), ?_⟩
    refine ⟨_, rfl, a, rfl, ⟨_, hS⟩, for_list (K := K) (a := a) (xs := ns.map V.int) (fun i σ H2 => ∃ (m : Int) (v : Option V), σ = [some (.ref a), some (.int m), v] ∧ H2 = H ∧ 0 ≤ m ∧ m < 2147483647)
      ⟨1, none, rfl, rfl, by decide, by decide⟩ (fun i σ H2 _ ⟨_, _, _, e, _⟩ => by rw [e]; exact hS) ?_ ?_⟩
    · rintro i x σ H2 hi ⟨m, v, rfl, rfl, h0, h1⟩
      rw [List.getElem?_map] at hi
      cases e : ns[i]? with
      | none => rw [e] at hi; cases hi
      | some z =>
        rw [e] at hi
        have ez : x = V.int z := (Option.some.inj hi).symm
        subst ez
        refine ⟨_, rfl, _, _, rfl, rfl, .inl ⟨by omega, by omega⟩, _, rfl, _, _, rfl, rfl, _, _, rfl, rfl, _, _, rfl, rfl, (show (2147483647 : Int) ≠ 0 by decide), ?_⟩
        refine ⟨_, _, rfl, rfl, ?_⟩
        rw [Int.fmod_eq_emod_of_nonneg _ (by decide)]
        omega
    · rintro σ H2 ⟨m, v, rfl, rfl, h0, h1⟩
      exact ⟨_, rfl, _, rfl, line5 (by simp), laid fun p H1 hp s1 h2 => q p H1 hp s1 ⟨h63, s1.seq hS, 0, m, 0, h2, by decide, ⟨h0, h1⟩, by decide⟩⟩
/-! _law_drawn -/
def spDrawn (K : PySem.W.Frag) : Sp := fun vs H Q _ => ∃ (S : Sk) (many : Int), vs = [.ref S.st, .int many] ∧ St K H S ∧ 0 < many ∧ many < 1267650600228229401496703205376 ∧ ∀ r H', 0 ≤ r → r < many → Kp K S H H' → Q (.int r) H'
abbrev N__law_drawn : List Str := ["_law_state", "_law_many", "_law_found", "_law_cell"]
theorem sc__law_drawn : FnScope ["_law_state", "_law_many", "_law_found", "_law_cell"] ["_law_state", "_law_many"] (defScope s__law_drawn) := ⟨rfl, rfl, rfl, by decide +kernel, rfl, by decide +kernel, by decide +kernel⟩
theorem ok_drawn (F : FunD K "_law_drawn" "_law_drawn" (defArgs s__law_drawn) (defBody s__law_drawn) (defScope s__law_drawn) dvs [] f fd) (g_len : mg "len" = none) : FnOk P w K mg base CX0 1 f fd ["_law_state", "_law_many"] (spDrawn K) := by
  refine F.ok sc__law_drawn (fun vs H Q E h => ?_) (fun cdv A outer s H vs Q E hr h => ?_)
  · obtain ⟨S, many, rfl, _⟩ := h
    rfl
  · obtain ⟨S, many, rfl, hst, hm0, hm1, q⟩ := h
    obtain ⟨h3, h2, a, m, c, h1, ha, hm, hc⟩ := id hst
    refine ⟨_, PSs.nox (pss_cons (ps_if (pt_cmpR op_gt (pe_ix ix_list (pv 0) pe_int (fun _ _ => rfl)) pe_int (nomark _)) (pss_cons (ps_set (i := 2) sc__law_drawn.nd rfl (Or.inl rfl) (pe_op op_modN (pe_ix ix_list (pv 0) pe_int (fun _ _ => rfl)) (pv 1)))
      (pss_cons (ps_asg (pe_op op_fdivW (pe_ix ix_list (pv 0) pe_int (fun _ _ => rfl)) (pv 1)) (pg_sub (pv 0) pe_int set_list))
      (pss_one (ps_ret (pv 2))))) pss_nil)
      (pss_cons (ps_asg (pe_op op_add (pe_ix ix_list (pv 0) pe_int (fun _ _ => rfl)) pe_int) (pg_sub (pv 0) pe_int set_list))
      (pss_cons (ps_if (pt_cmpR op_le (pe_ix ix_list (pv 0) pe_int (fun _ _ => rfl)) (pe_callB call_len rfl g_len boot_len (pa_cons (pe_ix ix_list (pv 0) pe_int (fun _ _ => rfl)) pa_nil)) (nomark _)) (pss_cons (ps_set (i := 3) sc__law_drawn.nd rfl (Or.inl rfl) (pe_ix ix_list (pe_ix ix_list (pv 0) pe_int (fun _ _ => rfl)) (pe_op op_sub (pe_ix ix_list (pv 0) pe_int (fun _ _ => rfl)) pe_int) (fun _ _ => rfl)))
      (pss_cons (ps_asg (pe_ifExp (pt_cmpR op_ge (pv 3) (pe_op op_pow pe_int pe_int) (nomark _)) (pe_op op_fdivW (pv 3) (pv 1)) pe_int) (pg_sub (pv 0) pe_int set_list))
      (pss_one (ps_ret (pe_op op_modN (pv 3) (pv 1)))))) pss_nil)
      (pss_cons (ps_asg (pe_op op_modN (pe_op op_add (pe_op op_mul (pe_ix ix_list (pv 0) pe_int (fun _ _ => rfl)) pe_int) pe_int) pe_int) (pg_sub (pv 0) pe_int set_list))
      (pss_one (ps_ret (pe_op op_modN (pe_op op_fdivW (pe_ix ix_list (pv 0) pe_int (fun _ _ => rfl)) pe_int) (pv 1)))))))), ?_⟩
    have hw : many.natAbs < 2 ^ 100 := by
      have e : (2 : Nat) ^ 100 = 1267650600228229401496703205376 := by decide +kernel
      omega
    have fm : ∀ x : Int, 0 ≤ x.fmod many ∧ x.fmod many < many := fun x => by
      rw [Int.fmod_eq_emod_of_nonneg _ (by omega)]
      exact ⟨Int.emod_nonneg _ (by omega), Int.emod_lt_of_pos _ hm0⟩
    have at_ : ∀ (y : Addr) (x0 x1 x2 x3 : V), atI [x0, x1, x2, x3] 3 = some x3 ∧ atI [x0, x1, x2, x3] 2 = some x2 ∧ atI [x0, x1, x2, x3] 1 = some x1 ∧ atI [x0, x1, x2, x3] 0 = some x0 := fun y x0 x1 x2 x3 => ⟨atI_nat (j := 3) rfl, atI_nat (j := 2) rfl, atI_nat (j := 1) rfl, atI_nat (j := 0) rfl⟩
    refine ⟨_, rfl, _, _, _, _, rfl, rfl, SqL.of h1, (at_ 0 _ _ _ _).1, _, _, rfl, rfl, _, rfl, ?_⟩
    by_cases hc0 : 0 < c
    · rw [decide_eq_true hc0]
      refine iteT ?_
      refine ⟨_, rfl, _, _, _, _, rfl, rfl, SqL.of h1, (at_ 0 _ _ _ _).1, _, rfl, _, _, rfl, rfl, by omega, ?_⟩
      refine ⟨_, rfl, _, _, _, _, rfl, rfl, SqL.of h1, (at_ 0 _ _ _ _).1, _, rfl, _, _, rfl, rfl, wide_div hm0 hw (by decide) (by decide), _, rfl, _, _, _, 3, rfl, rfl, h1, rfl, ?_⟩
      refine ⟨_, rfl, q _ _ (fm c).1 (fm c).2 (Kp.put hst ha hm ?_)⟩
      exact Int.ediv_nonneg hc (by omega)
    · rw [decide_eq_false hc0]
      refine iteF ?_
      refine ⟨_, rfl, _, _, _, _, rfl, rfl, SqL.of h1, (at_ 0 _ _ _ _).2.2.1, _, _, rfl, rfl, _, rfl, _, _, _, 1, rfl, rfl, h1, rfl, ?_⟩
      have k1 : Kp K S H (upd H S.st (.lst [.ref S.sc, .int (a + 1), .int m, .int c])) := Kp.put hst (by omega) hm hc
      have e1 : (upd H S.st (.lst [.ref S.sc, .int (a + 1), .int m, .int c])) S.st = some (.lst [.ref S.sc, .int (a + 1), .int m, .int c]) := upd_same
      show tSeq _ _ _ _ (upd H S.st (.lst [.ref S.sc, .int (a + 1), .int m, .int c]))
      generalize upd H S.st (.lst [.ref S.sc, .int (a + 1), .int m, .int c]) = H1 at k1 e1 ⊢
      refine ⟨_, rfl, _, _, _, _, rfl, rfl, SqL.of e1, (at_ 0 _ _ _ _).2.2.1, _, rfl, _, _, _, _, rfl, rfl, SqL.of e1, (at_ 0 _ _ _ _).2.2.2, _, _, rfl, .inl ⟨_, k1.st.2.1, rfl⟩, _, _, rfl, rfl, _, rfl, ?_⟩
      by_cases hl : a + 1 ≤ ((S.ns.map V.int).length : Int)
      · rw [decide_eq_true hl]
        refine iteT ?_
        rw [List.length_map] at hl
        have hat : atI (S.ns.map V.int) (a + 1 - 1) = some (.int (S.ns.getD a.toNat 0)) := by
          have e : a + 1 - 1 = ((a.toNat : Nat) : Int) := by omega
          rw [e]
          refine atI_nat ?_
          rw [List.getElem?_map, List.getD_eq_getElem?_getD]
          have : a.toNat < S.ns.length := by omega
          rw [List.getElem?_eq_getElem this]
          rfl
        generalize S.ns.getD a.toNat 0 = x at hat
        refine ⟨_, rfl, _, _, _, _, rfl, rfl, SqL.of e1, (at_ 0 _ _ _ _).2.2.2, _, rfl, _, _, _, _, rfl, rfl, SqL.of e1, (at_ 0 _ _ _ _).2.2.1, _, _, rfl, rfl, _, _, _, _, rfl, rfl, k1.st.2.1, hat, ?_⟩
        refine ⟨_, rfl, _, _, rfl, rfl, ⟨by decide, by decide, by decide⟩, _, _, rfl, rfl, _, rfl, ?_⟩
        have fin : ∀ z : Int, 0 ≤ z → Kp K S H (upd H1 S.st (.lst [.ref S.sc, .int (a + 1), .int m, .int z])) := fun z hz => k1.trans (Kp.put k1.st (by omega) hm hz)
        by_cases hx : (10 : Int) ^ (18 : Int).toNat ≤ x
        · rw [decide_eq_true hx]
          refine iteT ?_
          refine ⟨_, rfl, _, rfl, _, _, rfl, rfl, wide_div hm0 hw (by decide) (by decide), _, rfl, _, _, _, 3, rfl, rfl, e1, rfl, ?_⟩
          refine ⟨_, rfl, _, rfl, _, _, rfl, rfl, by omega, q _ _ (fm x).1 (fm x).2 (fin _ ?_)⟩
          exact Int.ediv_nonneg (Int.le_trans (by decide) hx) (by omega)
        · rw [decide_eq_false hx]
          refine iteF ?_
          refine ⟨_, rfl, _, _, _, 3, rfl, rfl, e1, rfl, ?_⟩
          exact ⟨_, rfl, _, rfl, _, _, rfl, rfl, by omega, q _ _ (fm x).1 (fm x).2 (fin _ (by decide))⟩
      · rw [decide_eq_false hl]
        refine iteF ?_
        refine ⟨_, rfl, _, _, _, _, rfl, rfl, SqL.of e1, (at_ 0 _ _ _ _).2.1, _, _, rfl, rfl, .inl ⟨by omega, by omega⟩, _, _, rfl, rfl, _, _, rfl, rfl, (show (2147483647 : Int) ≠ 0 by decide), _, rfl, _, _, _, 2, rfl, rfl, e1, rfl, ?_⟩
        refine ⟨_, rfl, _, _, _, _, rfl, rfl, SqL.of upd_same, (at_ 0 _ _ _ _).2.1, _, _, rfl, rfl, wide_div (by decide) (b := 3) (by decide) (by decide) (by decide), _, rfl, _, _, rfl, rfl, by omega, ?_⟩
        refine q _ _ (fm _).1 (fm _).2 (k1.trans (Kp.put k1.st (by omega) ?_ hc))
        show 0 ≤ (m * 48271 + 11).fmod 2147483647 ∧ (m * 48271 + 11).fmod 2147483647 < 2147483647
        rw [Int.fmod_eq_emod_of_nonneg _ (by decide)]
        omega
end
end Bm
set_option maxHeartbeats 1600000
namespace Bm
open PySem PySem.Spec PyProof.Rows L2
theorem Dp.same {K : PySem.W.Frag} {H H' : Hp} (e : Same H H') : ∀ {v : V} {d : PyData}, Dp K H v d → Dp K H' v d := by
  intro v d h
  refine Dp.rec (motive_1 := fun v d _ => Dp K H' v d) (motive_2 := fun vs ds _ => DpAll K H' vs ds) .non .bl .int .str (fun h _ ih => .lst (e.seq h) ih) (fun h _ ih => .tup (Same.tup e h) ih) .nil (fun _ _ h1 h2 => .cons h1 h2) h
theorem DpAll.at {K : PySem.W.Frag} {H : Hp} : ∀ {xs : List V} {ds : List PyData} {i : Nat} {d : PyData}, DpAll K H xs ds → ds[i]? = some d → ∃ v, xs[i]? = some v ∧ Dp K H v d
  | _, _, i, d, .nil, h => by simp at h
  | _, _, 0, d, .cons h1 _, h => ⟨_, rfl, by have e := Option.some.inj h; rw [← e]; exact h1⟩
  | _, _, i + 1, d, .cons _ h2, h => by
    obtain ⟨v, e1, e2⟩ := DpAll.at (i := i) (d := d) h2 h
    exact ⟨v, e1, e2⟩
theorem DpAll.len {K : PySem.W.Frag} {H : Hp} : ∀ {xs : List V} {ds : List PyData}, DpAll K H xs ds → xs.length = ds.length
  | _, _, .nil => rfl
  | _, _, .cons _ h => congrArg Nat.succ (DpAll.len h)
theorem kit_seq {K : PySem.W.Frag} {t : String} {b1 b2 : Bool} (h1 : kitB t "tuple" = some b1) (h2 : kitB t "list" = some b2) : PySem.W.kitAny K (.type t) [.type "tuple", .type "list"] = some (b1 || b2) :=
  kitAny_cons (kit_ty h1) (fun e => kitAny_cons (kit_ty h2) (fun e2 => by rw [e, e2]; rfl) (fun e2 => by rw [e, e2]; rfl)) (fun e => by rw [e]; rfl)
theorem two_cls : Paired ClsV [.ty "tuple", .ty "list"] [.type "tuple", .type "list"] := .cons (.ty _) (.cons (.ty _) .nil)
theorem depth_mem : ∀ {ds : List PyData} {d : PyData}, d ∈ ds → d.depth ≤ PyData.depthAll ds
  | x :: ds, d, h => by
    simp only [PyData.depthAll]
    rcases List.mem_cons.mp h with e | h
    · rw [e]; exact Nat.le_max_left _ _
    · exact Nat.le_trans (depth_mem h) (Nat.le_max_right _ _)
mutual
/-- no row of it is longer than it may be -/
def smallD : PyData → Prop
  | .list xs => xs.length ≤ 100000 ∧ smallA xs
  | .tuple xs => xs.length ≤ 100000 ∧ smallA xs
  | _ => True
def smallA : List PyData → Prop
  | [] => True
  | x :: xs => smallD x ∧ smallA xs
end
theorem smallA_mem : ∀ {ds : List PyData} {d : PyData}, smallA ds → d ∈ ds → smallD d
  | x :: ds, d, h, hm => by
    simp only [smallA] at h
    rcases List.mem_cons.mp hm with e | hm
    · rw [e]; exact h.1
    · exact smallA_mem h.2 hm
section
variable {P : Program} {w : World} {K : PySem.W.Frag} {mg : Str → Option Value} {base : Heap} {f : Addr} {fd : FuncData} {dvs : List V}
/-! _law_same, of the same data twice -/
def spSame (K : PySem.W.Frag) (n : Nat) : Sp := fun vs H Q _ => ∃ (x y : V) (d : PyData), vs = [x, y] ∧ Dp K H x d ∧ Dp K H y d ∧ d.depth < n ∧ smallD d ∧ ∀ H', Same H H' → Q (.bl true) H'
abbrev N__law_same : List Str := ["_law_found", "_law_due", "_law_alike", "_law_k"]
theorem sc__law_same : FnScope ["_law_found", "_law_due", "_law_alike", "_law_k"] ["_law_found", "_law_due"] (defScope s__law_same) := ⟨rfl, rfl, rfl, by decide +kernel, rfl, by decide +kernel, by decide +kernel⟩
theorem ok_same {n : Nat} (F : FunD K "_law_same" "_law_same" (defArgs s__law_same) (defBody s__law_same) (defScope s__law_same) dvs [] f fd) (g_isinstance : mg "isinstance" = none) (g_tuple : mg "tuple" = none) (g_list : mg "list" = none) (g_bool : mg "bool" = none) (g_int : mg "int" = none) (g_len : mg "len" = none) (g_range : mg "range" = none)
    (k__law_same : Kn P w K mg base CX0 n "_law_same" ["_law_found", "_law_due"] [] (spSame K n)) : FnOk P w K mg base CX0 (n + 1) f fd ["_law_found", "_law_due"] (spSame K (n + 1)) := by
  refine F.ok sc__law_same (fun vs H Q E h => ?_) (fun cdv A outer s H vs Q E hr h => ?_)
  · obtain ⟨x, y, d, rfl, _⟩ := h
    rfl
  · obtain ⟨x, y, d, rfl, hx, hy, hd, hsm, q⟩ := h
    refine ⟨_, PSs.nox (pss_cons (ps_if (pt_val (pe_callB call_isiT rfl g_isinstance (by decide +kernel) (pa_cons (pv 1) (pa_cons (pe_tup (pa_cons (pe_bltn (v := .ty "tuple") rfl g_tuple (by decide +kernel) rfl) (pa_cons (pe_bltn (v := .ty "list") rfl g_list (by decide +kernel) rfl) pa_nil))) pa_nil)))) (pss_cons (ps_if (PW.pt (pw_or (pt_not (pt_val (pe_callB call_isiT rfl g_isinstance (by decide +kernel) (pa_cons (pv 0) (pa_cons (pe_tup (pa_cons (pe_bltn (v := .ty "tuple") rfl g_tuple (by decide +kernel) rfl) (pa_cons (pe_bltn (v := .ty "list") rfl g_list (by decide +kernel) rfl) pa_nil))) pa_nil))))) (pw_or1 (pt_cmpR op_ne (pe_callB call_isi rfl g_isinstance (by decide +kernel) (pa_cons (pv 0) (pa_cons (pe_bltn (v := .ty "list") rfl g_list (by decide +kernel) rfl) pa_nil))) (pe_callB call_isi rfl g_isinstance (by decide +kernel) (pa_cons (pv 1) (pa_cons (pe_bltn (v := .ty "list") rfl g_list (by decide +kernel) rfl) pa_nil))) (nomark _))))) (pss_one (ps_ret pe_bl)) pss_nil)
      (pss_cons (ps_if (pt_cmpR op_ne (pe_callB call_len rfl g_len boot_len (pa_cons (pv 0) pa_nil)) (pe_callB call_len rfl g_len boot_len (pa_cons (pv 1) pa_nil)) (nomark _)) (pss_one (ps_ret pe_bl)) pss_nil)
      (pss_one (ps_ret (pe_cmpR (op_eqD hr.units) (pe_lc (own := [("_law_k", 3)]) (g := gName 3) rfl sc__law_same.nd (pi_range1 rfl g_range (pa_cons (pe_callB call_len rfl g_len boot_len (pa_cons (pv 1) pa_nil)) pa_nil)) (blkOk_by (own := [("_law_k", 3)]) (N := N__law_same) (sc := defScope s__law_same) (by decide +kernel)) (fun _ _ _ _ _ => (pg_name (i := 3) sc__law_same.nd rfl (Or.inl rfl))) (fun _ _ _ _ _ => (pts_one (pt_not (pt_val (pk k__law_same hr (by omega) rfl pass0 (pa_cons (pe_ix (show IxR _ (rIx K) from ix_seq) (pv 0) (pv 3) (fun _ _ => rfl)) (pa_cons (pe_ix (show IxR _ (rIx K) from ix_seq) (pv 1) (pv 3) (fun _ _ => rfl)) pa_nil))))))) (fun _ _ _ _ _ => (pv 3))) (pe_lst pa_nil) (nomark _)))))) pss_nil)
      (pss_cons (ps_set (i := 2) sc__law_same.nd rfl (Or.inl rfl) (pe_and (pe_cmpR op_eq (pe_callB call_isi rfl g_isinstance (by decide +kernel) (pa_cons (pv 0) (pa_cons (pe_bltn (v := .ty "bool") rfl g_bool (by decide +kernel) rfl) pa_nil))) (pe_callB call_isi rfl g_isinstance (by decide +kernel) (pa_cons (pv 1) (pa_cons (pe_bltn (v := .ty "bool") rfl g_bool (by decide +kernel) rfl) pa_nil))) (nomark _)) (pe_one (pe_cmpR op_eq (pe_callB call_isi rfl g_isinstance (by decide +kernel) (pa_cons (pv 0) (pa_cons (pe_bltn (v := .ty "int") rfl g_int (by decide +kernel) rfl) pa_nil))) (pe_callB call_isi rfl g_isinstance (by decide +kernel) (pa_cons (pv 1) (pa_cons (pe_bltn (v := .ty "int") rfl g_int (by decide +kernel) rfl) pa_nil))) (nomark _)))))
      (pss_one (ps_ret (pe_and (pv 2) (pe_one (pe_cmpR op_eq (pv 0) (pv 1) (nomark _)))))))), ?_⟩
    refine ⟨_, rfl, line5 (by simp), fun tp htp => ?_⟩
    have s1 : Same H (upd H tp (.tup [.ty "tuple", .ty "list"])) := Same.add htp
    have h1 : (upd H tp (.tup [.ty "tuple", .ty "list"])) tp = some (.tup [.ty "tuple", .ty "list"]) := upd_same
    generalize upd H tp (.tup [.ty "tuple", .ty "list"]) = H1 at s1 h1 ⊢
    have qq : ∀ b : Bool, b = true → Q (.bl b) H1 := fun b e => by rw [e]; exact q H1 s1
    cases hx with
      | non =>
        cases hy
        refine ⟨_, _, _, Value.type _, _, _, rfl, h1, two_cls, Knd.ty (.non), kit_seq (b1 := false) (b2 := false) (by decide +kernel) (by decide +kernel), _, rfl, iteF ?_⟩
        refine ⟨_, rfl, _, _, _, _, _, rfl, .ty _, Knd.ty (.non), kit_ty (r := false) (by decide +kernel), _, rfl, _, _, _, _, _, rfl, .ty _, Knd.ty (.non), kit_ty (r := false) (by decide +kernel), rfl, _, rfl, iteT ?_⟩
        refine ⟨_, rfl, _, _, _, _, _, rfl, .ty _, Knd.ty (.non), kit_ty (r := false) (by decide +kernel), _, rfl, _, _, _, _, _, rfl, .ty _, Knd.ty (.non), kit_ty (r := false) (by decide +kernel), rfl, ?_⟩
        exact ⟨_, rfl, _, rfl, iteT ⟨_, rfl, _, rfl, rfl, qq _ (decide_eq_true rfl)⟩⟩
      | bl b =>
        cases hy
        refine ⟨_, _, _, Value.type _, _, _, rfl, h1, two_cls, Knd.ty (.bl b), kit_seq (b1 := false) (b2 := false) (by decide +kernel) (by decide +kernel), _, rfl, iteF ?_⟩
        refine ⟨_, rfl, _, _, _, _, _, rfl, .ty _, Knd.ty (.bl b), kit_ty (r := true) (by decide +kernel), _, rfl, _, _, _, _, _, rfl, .ty _, Knd.ty (.bl b), kit_ty (r := true) (by decide +kernel), rfl, _, rfl, iteT ?_⟩
        refine ⟨_, rfl, _, _, _, _, _, rfl, .ty _, Knd.ty (.bl b), kit_ty (r := true) (by decide +kernel), _, rfl, _, _, _, _, _, rfl, .ty _, Knd.ty (.bl b), kit_ty (r := true) (by decide +kernel), rfl, ?_⟩
        exact ⟨_, rfl, _, rfl, iteT ⟨_, rfl, _, rfl, rfl, qq _ (decide_eq_true rfl)⟩⟩
      | int i =>
        cases hy
        refine ⟨_, _, _, Value.type _, _, _, rfl, h1, two_cls, Knd.ty (.int i), kit_seq (b1 := false) (b2 := false) (by decide +kernel) (by decide +kernel), _, rfl, iteF ?_⟩
        refine ⟨_, rfl, _, _, _, _, _, rfl, .ty _, Knd.ty (.int i), kit_ty (r := false) (by decide +kernel), _, rfl, _, _, _, _, _, rfl, .ty _, Knd.ty (.int i), kit_ty (r := false) (by decide +kernel), rfl, _, rfl, iteT ?_⟩
        refine ⟨_, rfl, _, _, _, _, _, rfl, .ty _, Knd.ty (.int i), kit_ty (r := true) (by decide +kernel), _, rfl, _, _, _, _, _, rfl, .ty _, Knd.ty (.int i), kit_ty (r := true) (by decide +kernel), rfl, ?_⟩
        exact ⟨_, rfl, _, rfl, iteT ⟨_, rfl, _, rfl, rfl, qq _ (decide_eq_true rfl)⟩⟩
      | str z =>
        cases hy
        refine ⟨_, _, _, Value.type _, _, _, rfl, h1, two_cls, Knd.ty (.str z), kit_seq (b1 := false) (b2 := false) (by decide +kernel) (by decide +kernel), _, rfl, iteF ?_⟩
        refine ⟨_, rfl, _, _, _, _, _, rfl, .ty _, Knd.ty (.str z), kit_ty (r := false) (by decide +kernel), _, rfl, _, _, _, _, _, rfl, .ty _, Knd.ty (.str z), kit_ty (r := false) (by decide +kernel), rfl, _, rfl, iteT ?_⟩
        refine ⟨_, rfl, _, _, _, _, _, rfl, .ty _, Knd.ty (.str z), kit_ty (r := false) (by decide +kernel), _, rfl, _, _, _, _, _, rfl, .ty _, Knd.ty (.str z), kit_ty (r := false) (by decide +kernel), rfl, ?_⟩
        exact ⟨_, rfl, _, rfl, iteT ⟨_, rfl, _, rfl, rfl, qq _ (decide_eq_true rfl)⟩⟩
      | lst hq ha =>
        rename_i xa xs ds
        cases hy with
        | lst hq2 ha2 =>
          rename_i ya ys
          have hl1 := DpAll.len ha
          have hl2 := DpAll.len ha2
          refine ⟨_, _, _, Value.type _, _, _, rfl, h1, two_cls, Knd.ty (.lst (s1.seq hq2)), kit_seq (b1 := false) (b2 := true) (by decide +kernel) (by decide +kernel), _, rfl, iteT ?_⟩
          refine ⟨_, rfl, line5 (by simp), fun tp2 htp2 => ?_⟩
          have s2 : Same H1 (upd H1 tp2 (.tup [.ty "tuple", .ty "list"])) := Same.add htp2
          have h2 : (upd H1 tp2 (.tup [.ty "tuple", .ty "list"])) tp2 = some (.tup [.ty "tuple", .ty "list"]) := upd_same
          generalize upd H1 tp2 (.tup [.ty "tuple", .ty "list"]) = H2 at s2 h2 ⊢
          have S2 : ∀ {a : Addr} {l : List V}, SqL K H a l → SqL K H2 a l := fun h => (Same.trans s1 s2).seq h
          refine ⟨_, _, _, Value.type _, _, _, rfl, h2, two_cls, Knd.ty (.lst (S2 hq)), kit_seq (b1 := false) (b2 := true) (by decide +kernel) (by decide +kernel), _, rfl, iteF ?_⟩
          refine ⟨_, rfl, _, _, _, _, _, rfl, .ty _, Knd.ty (.lst (S2 hq)), kit_ty (r := true) (by decide +kernel), _, rfl, _, _, _, _, _, rfl, .ty _, Knd.ty (.lst (S2 hq2)), kit_ty (r := true) (by decide +kernel), rfl, _, rfl, iteF ?_⟩
          refine ⟨_, rfl, _, _, rfl, .inl ⟨_, S2 hq, rfl⟩, _, rfl, _, _, rfl, .inl ⟨_, S2 hq2, rfl⟩, rfl, _, rfl, ?_⟩
          rw [show (!decide (V.int (xs.length : Int) = V.int (ys.length : Int))) = false by rw [hl1, hl2, decide_eq_true rfl]; rfl]
          refine iteF ?_
          simp only [smallD] at hsm
          have small : (ys.length : Int) < 2 ^ 62 := by
            have := hsm.1
            omega
          refine ⟨_, rfl, _, _, rfl, .inl ⟨_, S2 hq2, rfl⟩, _, rfl, by omega, small, fun D hD => ?_⟩
          have s12 := Same.trans s1 s2
          refine lc_range (lo := 0) (n := ((ys.length : Nat) : Int).toNat) (fun i H3 => Same H2 H3 ∧ H3 D = some (.lst [])) ⟨Same.add hD, upd_same⟩ ?_ ?_
          · rintro i H3 hi ⟨p1, p2⟩
            have hi : i < ys.length := by
              rw [Int.toNat_natCast] at hi
              exact hi
            have hid : i < ds.length := by omega
            obtain ⟨u, u1, u2⟩ := DpAll.at ha (List.getElem?_eq_getElem hid)
            obtain ⟨v, v1, v2⟩ := DpAll.at ha2 (List.getElem?_eq_getElem hid)
            have s03 := Same.trans s12 p1
            have S3 : ∀ {a : Addr} {l : List V}, SqL K H a l → SqL K H3 a l := fun h => s03.seq h
            have e0 : (0 : Int) + (i : Nat) = ((i : Nat) : Int) := by omega
            refine ⟨rfl, _, rfl, _, rfl, .inl ⟨_, _, _, _, rfl, rfl, S3 hq, (congrArg (atI xs) e0).trans (atI_nat u1), ?_⟩⟩
            · refine ⟨_, rfl, _, rfl, .inl ⟨_, _, _, _, rfl, rfl, S3 hq2, (congrArg (atI ys) e0).trans (atI_nat v1), ?_⟩⟩
              refine ⟨u, v, ds[i], rfl, Dp.same s03 u2, Dp.same s03 v2, ?_, smallA_mem hsm.2 (List.getElem_mem hid), fun H4 s4 => ⟨_, rfl, iteF ⟨Same.trans p1 s4, s4 _ _ p2⟩⟩⟩
              have hm := depth_mem (List.getElem_mem hid)
              simp only [PyData.depth] at hd
              omega
          · rintro H3 ⟨p1, p2⟩
            refine ⟨line5 (by simp), fun p4 hp4 => ?_⟩
            have s4 : Same H3 (upd H3 p4 (.lst [])) := Same.add hp4
            have h4 : (upd H3 p4 (.lst [])) p4 = some (.lst []) := upd_same
            generalize upd H3 p4 (.lst []) = H4 at s4 h4 ⊢
            refine ⟨.list [], .list [], .lst (SqL.of (s4 _ _ p2)) .nil, .lst (SqL.of h4) .nil, by decide +kernel, by decide +kernel, ?_⟩
            exact q _ (Same.trans s12 (Same.trans p1 s4))
      | tup hq ha =>
        rename_i xa xs ds
        cases hy with
        | tup hq2 ha2 =>
          rename_i ya ys
          have hl1 := DpAll.len ha
          have hl2 := DpAll.len ha2
          refine ⟨_, _, _, Value.type _, _, _, rfl, h1, two_cls, Knd.ty (.tup (Same.tup s1 hq2)), kit_seq (b1 := true) (b2 := false) (by decide +kernel) (by decide +kernel), _, rfl, iteT ?_⟩
          refine ⟨_, rfl, line5 (by simp), fun tp2 htp2 => ?_⟩
          have s2 : Same H1 (upd H1 tp2 (.tup [.ty "tuple", .ty "list"])) := Same.add htp2
          have h2 : (upd H1 tp2 (.tup [.ty "tuple", .ty "list"])) tp2 = some (.tup [.ty "tuple", .ty "list"]) := upd_same
          generalize upd H1 tp2 (.tup [.ty "tuple", .ty "list"]) = H2 at s2 h2 ⊢
          have S2 : ∀ {a : Addr} {l : List V}, SqT K H a l → SqT K H2 a l := fun h => Same.tup (Same.trans s1 s2) h
          refine ⟨_, _, _, Value.type _, _, _, rfl, h2, two_cls, Knd.ty (.tup (S2 hq)), kit_seq (b1 := true) (b2 := false) (by decide +kernel) (by decide +kernel), _, rfl, iteF ?_⟩
          refine ⟨_, rfl, _, _, _, _, _, rfl, .ty _, Knd.ty (.tup (S2 hq)), kit_ty (r := false) (by decide +kernel), _, rfl, _, _, _, _, _, rfl, .ty _, Knd.ty (.tup (S2 hq2)), kit_ty (r := false) (by decide +kernel), rfl, _, rfl, iteF ?_⟩
          refine ⟨_, rfl, _, _, rfl, .inr ⟨_, S2 hq, rfl⟩, _, rfl, _, _, rfl, .inr ⟨_, S2 hq2, rfl⟩, rfl, _, rfl, ?_⟩
          rw [show (!decide (V.int (xs.length : Int) = V.int (ys.length : Int))) = false by rw [hl1, hl2, decide_eq_true rfl]; rfl]
          refine iteF ?_
          simp only [smallD] at hsm
          have small : (ys.length : Int) < 2 ^ 62 := by
            have := hsm.1
            omega
          refine ⟨_, rfl, _, _, rfl, .inr ⟨_, S2 hq2, rfl⟩, _, rfl, by omega, small, fun D hD => ?_⟩
          have s12 := Same.trans s1 s2
          refine lc_range (lo := 0) (n := ((ys.length : Nat) : Int).toNat) (fun i H3 => Same H2 H3 ∧ H3 D = some (.lst [])) ⟨Same.add hD, upd_same⟩ ?_ ?_
          · rintro i H3 hi ⟨p1, p2⟩
            have hi : i < ys.length := by
              rw [Int.toNat_natCast] at hi
              exact hi
            have hid : i < ds.length := by omega
            obtain ⟨u, u1, u2⟩ := DpAll.at ha (List.getElem?_eq_getElem hid)
            obtain ⟨v, v1, v2⟩ := DpAll.at ha2 (List.getElem?_eq_getElem hid)
            have s03 := Same.trans s12 p1
            have S3 : ∀ {a : Addr} {l : List V}, SqT K H a l → SqT K H3 a l := fun h => Same.tup s03 h
            have e0 : (0 : Int) + (i : Nat) = ((i : Nat) : Int) := by omega
            refine ⟨rfl, _, rfl, _, rfl, .inr (.inl ⟨_, _, _, _, rfl, rfl, S3 hq, (congrArg (atI xs) e0).trans (atI_nat u1), ?_⟩)⟩
            · refine ⟨_, rfl, _, rfl, .inr (.inl ⟨_, _, _, _, rfl, rfl, S3 hq2, (congrArg (atI ys) e0).trans (atI_nat v1), ?_⟩)⟩
              refine ⟨u, v, ds[i], rfl, Dp.same s03 u2, Dp.same s03 v2, ?_, smallA_mem hsm.2 (List.getElem_mem hid), fun H4 s4 => ⟨_, rfl, iteF ⟨Same.trans p1 s4, s4 _ _ p2⟩⟩⟩
              have hm := depth_mem (List.getElem_mem hid)
              simp only [PyData.depth] at hd
              omega
          · rintro H3 ⟨p1, p2⟩
            refine ⟨line5 (by simp), fun p4 hp4 => ?_⟩
            have s4 : Same H3 (upd H3 p4 (.lst [])) := Same.add hp4
            have h4 : (upd H3 p4 (.lst [])) p4 = some (.lst []) := upd_same
            generalize upd H3 p4 (.lst []) = H4 at s4 h4 ⊢
            refine ⟨.list [], .list [], .lst (SqL.of (s4 _ _ p2)) .nil, .lst (SqL.of h4) .nil, by decide +kernel, by decide +kernel, ?_⟩
            exact q _ (Same.trans s12 (Same.trans p1 s4))
end
end Bm
set_option maxHeartbeats 1600000
namespace Bm
open PySem PySem.Spec PyProof.Rows L2
theorem hu_of {A : Around} {k : Nat} (hr : Room k A) : A.units + 1 < cLine := by
  have := hu65 hr
  omega
theorem two_int {x y i : Int} (h0 : 0 ≤ i) (h1 : i < 2) : atI [V.int x, V.int y] i = some (.int (if i = 0 then x else y)) := by
  have e : i = 0 ∨ i = 1 := by omega
  rcases e with rfl | rfl
  · exact atI_nat (j := 0) rfl
  · exact atI_nat (j := 1) rfl
theorem passQ {X : Cx} : Passes (L2.CX X.prog X.w) X E0 := fun _ _ _ _ _ _ _ w => by
  rcases w with ⟨_, _, _, _, _, w⟩
  exact w.2.2.2.2.2.2.2.elim
theorem passL {X : Cx} {A : Around} {outer : List Env} {s : Shared} {H : Hp} {E : XK} {sc : Scope} {f c : Addr} : Passes (L2.CX X.prog X.w) (LamX.lamCx X A outer s H E sc f c) E :=
  passes_call (X := LamX.lamCx X A outer s H E sc f c) (W := fun cls d _ H => E cls d H) (takes_of (X := LamX.lamCx X A outer s H E sc f c) rfl rfl rfl rfl) fun _ _ _ _ h => h
theorem pt_ifx {X : Cx} {c a b : Expr} {pos : Pos} {tc ta tb : TT} (hc : L2.PT X c tc) (ha : L2.PT X a ta) (hb : L2.PT X b tb) : L2.PT X (.IfExp c a b pos) (fun σ H Q => tc σ H fun k H1 => if k = true then ta σ H1 Q else tb σ H1 Q) := by
  refine ⟨fun pn s0 σ G Q J w => ?_⟩
  refine isTrue_IfExp (thn (hc.run pn s0 σ G _ J w) fun d s1 ⟨G1, J1, w1⟩ => ?_)
  cases d
  · exact hb.run pn s1 σ G1 Q J1 w1
  · exact ha.run pn s1 σ G1 Q J1 w1
theorem tabs_same {T : List (Addr × Str)} {H H' : Hp} (h : LamX.Tabs T H) (e : Same H H') : LamX.Tabs T H' := h.ext e
theorem tabs_kp {K : PySem.W.Frag} {S : Sk} {T : List (Addr × Str)} {H H' : Hp} (h : LamX.Tabs T H) (k : Kp K S H H') : LamX.Tabs T H' := fun p hp => by
  obtain ⟨ps, h1, h2, h3⟩ := h p hp
  obtain ⟨l, hl⟩ := k.old.lst
  refine ⟨ps, k.but _ _ (fun z => by rw [z, hl] at h1; cases h1) h1, h2, fun pos cv hc => ?_⟩
  obtain ⟨c, e1, e2⟩ := h3 pos cv hc
  exact ⟨c, e1, k.but _ _ (fun z => by rw [z, hl] at e2; unfold LamX.CodeO at e2; cases e2) e2⟩
theorem extN_tup {K : PySem.W.Frag} {H H' : Hp} {a : Addr} {xs : List V} (e : LamX.ExtN H H') (h : SqT K H a xs) : SqT K H' a xs := by
  rcases h with (h | ⟨o, h⟩) | h
  · exact .inl (.inl (e _ _ h (fun _ z => by cases z)))
  · exact .inl (.inr ⟨o, e _ _ h (fun _ z => by cases z)⟩)
  · exact .inr h
theorem extN_lst {K : PySem.W.Frag} {H H' : Hp} {a : Addr} {xs : List V} (e : LamX.ExtN H H') (h : SqL K H a xs) : SqL K H' a xs := by
  rcases h with (h | ⟨o, h⟩) | h
  · exact .inl (.inl (e _ _ h (fun _ z => by cases z)))
  · exact .inl (.inr ⟨o, e _ _ h (fun _ z => by cases z)⟩)
  · exact .inr h
theorem extN_st {K : PySem.W.Frag} {H H' : Hp} {S : Sk} (e : LamX.ExtN H H') (h : St K H S) : St K H' S := by
  obtain ⟨h0, h1, a, m, c, h2, h3⟩ := h
  exact ⟨h0, extN_lst e h1, a, m, c, e _ _ h2 (fun _ z => by cases z), h3⟩
def rListOf (K : PySem.W.Frag) : List V → Hp → VK → Prop := fun xs H Q => ∃ p ys, xs = [.ref p] ∧ (SqL K H p ys ∨ SqT K H p ys) ∧ ∀ l, H l = none → Q (.ref l) (upd H l (.lst ys))
theorem least {P : Nat → Prop} : ∀ k, P k → ∃ i, P i ∧ ∀ j, j < i → ¬ P j := fun k => by
  induction k using Nat.strongRecOn with
  | ind k ih =>
    intro h
    by_cases c : ∃ j, j < k ∧ P j
    · obtain ⟨j, hj, pj⟩ := c
      exact ih j hj pj
    · exact ⟨k, h, fun j hj pj => c ⟨j, hj, pj⟩⟩
/-- a flat value as data -/
def toD : V → PyData
  | .int i => .int i
  | .str s => .str s
  | .bl b => .bool b
  | _ => .none
def plainV : V → Bool
  | .int _ => true
  | .str _ => true
  | .bl _ => true
  | _ => false
theorem dp_plain {K : PySem.W.Frag} {H : Hp} : ∀ {l : List V}, l.all plainV = true → DpAll K H l (l.map toD)
  | [], _ => .nil
  | v :: l, h => by
    rw [List.all_cons, Bool.and_eq_true] at h
    refine .cons ?_ (dp_plain h.2)
    cases v with
    | int i => exact .int i
    | str s => exact .str s
    | bl b => exact .bl b
    | _ => exact absurd h.1 (by simp [plainV])
theorem ifs2 {c : TT} {a : TS} {D : Ends} {σ : L2.St} {H : Hp} (P : L2.St → Hp → Prop) (h1 : ∀ σ' G, P σ' G → D.nx σ' G) (h2 : (∀ σ' G, P σ' G → D.nx σ' G) → tIfS c a tNext D σ H) : tIfS c a tNext D σ H := h2 h1
theorem asg2 {t : TE} {g : TG} {D : Ends} {σ : L2.St} {H : Hp} (P : L2.St → Hp → Prop) (h1 : ∀ σ' G, P σ' G → D.nx σ' G) (h2 : (∀ σ' G, P σ' G → D.nx σ' G) → tAsg t g D σ H) : tAsg t g D σ H := h2 h1
def rTupOf (K : PySem.W.Frag) : List V → Hp → VK → Prop := fun xs H Q => ∃ p ys, xs = [.ref p] ∧ ((SqL K H p ys ∧ ∀ l, H l = none → Q (.ref l) (upd H l (.tup ys))) ∨ (SqT K H p ys ∧ Q (.ref p) H))
theorem ne_lst {H : Hp} {p b : Addr} {l : List V} {u : HO} (hd : H p = some (.lst l)) (hb : H b = some u) (hu : u ≠ .lst l) : b ≠ p := fun z => by
  rw [z, hd] at hb
  exact hu (Option.some.inj hb).symm
/-- a list that begins with an object and a text is neither the state nor the script -/
theorem St.updL {K : PySem.W.Frag} {H : Hp} {S : Sk} {p r : Addr} {x : Str} {t : List V} {o : HO} (h : St K H S) (hd : H p = some (.lst (.ref r :: .str x :: t))) : St K (L2.upd H p o) S := by
  obtain ⟨h0, h1, a, m, c, h2, h3⟩ := h
  refine ⟨h0, ?_, a, m, c, by rw [upd_ne (ne_lst hd h2 (fun z => by cases z))]; exact h2, h3⟩
  have e : ∀ l : List Int, l.map V.int ≠ .ref r :: .str x :: t := fun l z => by
    cases l with
    | nil => cases z
    | cons a b => cases (List.cons.inj z).1
  rcases h1 with (h | ⟨u, h⟩) | h
  · exact .inl (.inl (by rw [upd_ne (ne_lst hd h (fun z => e _ (HO.lst.inj z)))]; exact h))
  · exact .inl (.inr ⟨u, by rw [upd_ne (ne_lst hd h (fun z => by cases z))]; exact h⟩)
  · exact .inr h
theorem tabs_updL {T : List (Addr × Str)} {H : Hp} {p : Addr} {l : List V} {o : HO} (h : LamX.Tabs T H) (hd : H p = some (.lst l)) : LamX.Tabs T (upd H p o) := fun r hr => by
  obtain ⟨ps, h1, h2, h3⟩ := h r hr
  refine ⟨ps, by rw [upd_ne (ne_lst hd h1 (fun z => by cases z))]; exact h1, h2, fun pos cv hc => ?_⟩
  obtain ⟨c, e1, e2⟩ := h3 pos cv hc
  exact ⟨c, e1, by rw [upd_ne (ne_lst hd e2 (fun z => by unfold LamX.CodeO at z; cases z))]; exact e2⟩
end Bm
/-! a list's layout: how wide each deed comes to be -/
namespace Bm
/-- where the k-th stands -/
def lay (sz : List Nat) (k : Nat) : Nat := (sz.take k).sum
/-- the k-th is narrow and its goal is out of reach -/
def farAt (gs : List (Option Nat)) (sz : List Nat) (k : Nat) : Bool := match gs[k]? with
  | some (some g) => decide (sz[k]? = some 1) && !decide (-16 ≤ (lay sz g : Int) - lay sz k - 1 ∧ (lay sz g : Int) - lay sz k - 1 ≤ 15)
  | _ => false
def wstep (gs : List (Option Nat)) (sz : List Nat) : List Nat := (List.range sz.length).map fun k => if farAt gs sz k = true then 2 else sz.getD k 1
def wN (gs : List (Option Nat)) : Nat → List Nat
  | 0 => List.replicate gs.length 1
  | n + 1 => wstep gs (wN gs n)
theorem wstep_len (gs : List (Option Nat)) (sz : List Nat) : (wstep gs sz).length = sz.length := by
  unfold wstep
  rw [List.length_map, List.length_range]
theorem wstep_at {gs : List (Option Nat)} {sz : List Nat} {k : Nat} (h : k < sz.length) : (wstep gs sz)[k]? = some (if farAt gs sz k = true then 2 else sz.getD k 1) := by
  unfold wstep
  rw [List.getElem?_map, List.getElem?_range h]
  rfl
theorem wN_len (gs : List (Option Nat)) : ∀ n, (wN gs n).length = gs.length
  | 0 => List.length_replicate
  | n + 1 => by
    show (wstep gs (wN gs n)).length = _
    rw [wstep_len, wN_len gs n]
/-- none is out of reach: nothing changes -/
theorem wstep_fix {gs : List (Option Nat)} {sz : List Nat} (h : ∀ k, farAt gs sz k = false) : wstep gs sz = sz := by
  refine List.ext_getElem? fun k => ?_
  by_cases c : k < sz.length
  · rw [wstep_at c, h k, List.getD_eq_getElem?_getD, List.getElem?_eq_getElem c]
    rfl
  · rw [List.getElem?_eq_none (by rw [wstep_len]; omega), List.getElem?_eq_none (by omega)]
def ones (l : List Nat) : Nat := l.countP fun x => decide (x = 1)
theorem far_one {gs : List (Option Nat)} {sz : List Nat} {k : Nat} (h : farAt gs sz k = true) : sz[k]? = some 1 := by
  unfold farAt at h
  split at h
  · simp only [Bool.and_eq_true, decide_eq_true_eq] at h
    exact h.1
  · cases h
theorem ones_le {f : Nat → Bool} : ∀ (l : List Nat) (i : Nat), ones ((List.range' i l.length).map fun k => if f k = true then 2 else l.getD (k - i) 1) ≤ ones l ∧ ((∃ k, i ≤ k ∧ k < i + l.length ∧ f k = true ∧ l[k - i]? = some 1) → ones ((List.range' i l.length).map fun k => if f k = true then 2 else l.getD (k - i) 1) < ones l)
  | [], i => ⟨Nat.le_refl _, fun ⟨k, h1, h2, _⟩ => absurd h2 (by simp; omega)⟩
  | x :: l, i => by
    have ih := ones_le (f := f) l (i + 1)
    have e : ((List.range' i (x :: l).length).map fun k => if f k = true then 2 else (x :: l).getD (k - i) 1) = (if f i = true then 2 else x) :: ((List.range' (i + 1) l.length).map fun k => if f k = true then 2 else l.getD (k - (i + 1)) 1) := by
      rw [List.length_cons, List.range'_succ, List.map_cons]
      congr 1
      · simp
      · refine List.map_congr_left fun k hk => ?_
        have := List.mem_range'_1.mp hk
        obtain ⟨j, rfl⟩ : ∃ j, k = i + 1 + j := ⟨k - (i + 1), by omega⟩
        rw [show i + 1 + j - i = j + 1 by omega, show i + 1 + j - (i + 1) = j by omega]
        rfl
    rw [e]
    unfold ones at ih ⊢
    rw [List.countP_cons, List.countP_cons]
    have hx : (if decide ((if f i = true then 2 else x) = 1) = true then 1 else 0) ≤ (if decide (x = 1) = true then 1 else 0 : Nat) := by
      by_cases c : f i = true
      · rw [if_pos c]; simp
      · rw [if_neg c]; exact Nat.le_refl _
    refine ⟨Nat.add_le_add ih.1 hx, ?_⟩
    rintro ⟨k, h1, h2, h3, h4⟩
    by_cases ck : k = i
    · rw [ck] at h3 h4
      rw [Nat.sub_self] at h4
      have hx1 : x = 1 := Option.some.inj h4
      have : (if decide ((if f i = true then 2 else x) = 1) = true then 1 else 0) < (if decide (x = 1) = true then 1 else 0 : Nat) := by
        rw [if_pos h3, hx1]
        decide
      have := ih.1
      omega
    · have := ih.2 ⟨k, by omega, by rw [List.length_cons] at h2; omega, h3, by
        obtain ⟨j, rfl⟩ : ∃ j, k = i + 1 + j := ⟨k - (i + 1), by omega⟩
        rw [show i + 1 + j - i = j + 1 by omega] at h4
        rw [show i + 1 + j - (i + 1) = j by omega]
        exact h4⟩
      omega
/-- while one is out of reach, the narrow ones grow fewer -/
theorem wstep_less {gs : List (Option Nat)} {sz : List Nat} {k : Nat} (h : farAt gs sz k = true) : ones (wstep gs sz) < ones sz := by
  have h1 := far_one h
  have hk := (List.getElem?_eq_some_iff.mp h1).1
  have := (ones_le (f := farAt gs sz) sz 0).2 ⟨k, Nat.zero_le _, by omega, h, by rw [Nat.sub_zero]; exact h1⟩
  unfold wstep
  rw [List.range_eq_range']
  simpa using this
theorem ones_start (gs : List (Option Nat)) : ones (wN gs 0) ≤ gs.length := by
  unfold ones
  exact Nat.le_trans List.countP_le_length (Nat.le_of_eq List.length_replicate)
theorem wN_still {gs : List (Option Nat)} {n : Nat} (h : ∀ k, farAt gs (wN gs n) k = false) : ∀ m, wN gs (n + m) = wN gs n
  | 0 => rfl
  | m + 1 => by
    show wstep gs (wN gs (n + m)) = _
    rw [wN_still h m, wstep_fix h]
theorem wN_ones (gs : List (Option Nat)) : ∀ n, ones (wN gs n) + n ≤ gs.length ∨ ∃ m, m ≤ n ∧ ∀ k, farAt gs (wN gs m) k = false
  | 0 => .inl (ones_start gs)
  | n + 1 => by
    rcases wN_ones gs n with h | ⟨m, h1, h2⟩
    · by_cases c : ∃ k, farAt gs (wN gs n) k = true
      · obtain ⟨k, hk⟩ := c
        have : ones (wN gs (n + 1)) < ones (wN gs n) := wstep_less hk
        exact .inl (by omega)
      · exact .inr ⟨n, Nat.le_succ n, fun k => by
          cases e : farAt gs (wN gs n) k with
          | false => rfl
          | true => exact absurd ⟨k, e⟩ c⟩
    · exact .inr ⟨m, Nat.le_succ_of_le h1, h2⟩
/-- the layout in the end -/
def wEnd (gs : List (Option Nat)) : List Nat := wN gs (gs.length + 1)
theorem wEnd_of {gs : List (Option Nat)} {n : Nat} (h : ∀ k, farAt gs (wN gs n) k = false) : wN gs n = wEnd gs := by
  rcases wN_ones gs (gs.length + 1) with h2 | ⟨m, h1, h2⟩
  · omega
  · have e1 := wN_still h2 (gs.length + 1 - m)
    rw [Nat.add_sub_cancel' h1] at e1
    unfold wEnd
    rw [e1]
    cases Nat.le_total n m with
    | inl c =>
      have := wN_still h (m - n)
      rw [Nat.add_sub_cancel' c] at this
      exact this.symm
    | inr c =>
      have := wN_still h2 (n - m)
      rw [Nat.add_sub_cancel' c] at this
      exact this
end Bm
/-! a layout from any sizes on -/
namespace Bm
def wM (gs : List (Option Nat)) (s0 : List Nat) : Nat → List Nat
  | 0 => s0
  | n + 1 => wstep gs (wM gs s0 n)
section
variable {gs : List (Option Nat)} {s0 : List Nat}
theorem wM_len (hs : s0.length = gs.length) : ∀ n, (wM gs s0 n).length = gs.length
  | 0 => hs
  | n + 1 => by
    show (wstep gs (wM gs s0 n)).length = _
    rw [wstep_len, wM_len hs n]
theorem wM_le {B : Nat} (hB : 2 ≤ B) (h : ∀ x ∈ s0, x ≤ B) : ∀ n, ∀ x ∈ wM gs s0 n, x ≤ B
  | 0, x, hx => h x hx
  | n + 1, x, hx => by
    have hx : x ∈ wstep gs (wM gs s0 n) := hx
    unfold wstep at hx
    obtain ⟨k, hk, rfl⟩ := List.mem_map.mp hx
    have hk := List.mem_range.mp hk
    by_cases c : farAt gs (wM gs s0 n) k = true
    · rw [if_pos c]; exact hB
    · rw [if_neg c, List.getD_eq_getElem?_getD, List.getElem?_eq_getElem hk]
      exact wM_le hB h n _ (List.getElem_mem hk)
theorem onesS (hs : s0.length = gs.length) : ones (wM gs s0 0) ≤ gs.length := by
  unfold ones
  exact Nat.le_trans List.countP_le_length (Nat.le_of_eq hs)
theorem wM_still {n : Nat} (h : ∀ k, farAt gs (wM gs s0 n) k = false) : ∀ m, wM gs s0 (n + m) = wM gs s0 n
  | 0 => rfl
  | m + 1 => by
    show wstep gs (wM gs s0 (n + m)) = _
    rw [wM_still h m, wstep_fix h]
theorem wM_ones (hs : s0.length = gs.length) : ∀ n, ones (wM gs s0 n) + n ≤ gs.length ∨ ∃ m, m ≤ n ∧ ∀ k, farAt gs (wM gs s0 m) k = false
  | 0 => .inl (onesS hs)
  | n + 1 => by
    rcases wM_ones hs n with h | ⟨m, h1, h2⟩
    · by_cases c : ∃ k, farAt gs (wM gs s0 n) k = true
      · obtain ⟨k, hk⟩ := c
        have : ones (wM gs s0 (n + 1)) < ones (wM gs s0 n) := wstep_less hk
        exact .inl (by omega)
      · exact .inr ⟨n, Nat.le_succ n, fun k => by
          cases e : farAt gs (wM gs s0 n) k with
          | false => rfl
          | true => exact absurd ⟨k, e⟩ c⟩
    · exact .inr ⟨m, Nat.le_succ_of_le h1, h2⟩
/-- the layout in the end -/
def wEndS (gs : List (Option Nat)) (s0 : List Nat) : List Nat := wM gs s0 (gs.length + 1)
theorem wEndS_of (hs : s0.length = gs.length) {n : Nat} (h : ∀ k, farAt gs (wM gs s0 n) k = false) : wM gs s0 n = wEndS gs s0 := by
  rcases wM_ones hs (gs.length + 1) with h2 | ⟨m, h1, h2⟩
  · omega
  · have e1 := wM_still h2 (gs.length + 1 - m)
    rw [Nat.add_sub_cancel' h1] at e1
    unfold wEndS
    rw [e1]
    cases Nat.le_total n m with
    | inl c =>
      have := wM_still h (m - n)
      rw [Nat.add_sub_cancel' c] at this
      exact this.symm
    | inr c =>
      have := wM_still h2 (n - m)
      rw [Nat.add_sub_cancel' c] at this
      exact this
/-- in the end none is out of reach -/
theorem wEndS_no (hs : s0.length = gs.length) : ∀ k, farAt gs (wEndS gs s0) k = false := by
  rcases wM_ones hs (gs.length + 1) with h2 | ⟨m, h1, h2⟩
  · omega
  · have e1 := wM_still h2 (gs.length + 1 - m)
    rw [Nat.add_sub_cancel' h1] at e1
    unfold wEndS
    rw [e1]
    exact h2
end
end Bm
set_option maxHeartbeats 800000
namespace Bm
open PySem PySem.Spec PyProof.Rows L2
section
variable {X : Cx}
theorem op_inDk (hu : X.A.units + 1 < cLine) : OpR X (compareOp .In) (fun y x H Q => ∃ a o, x = .ref a ∧ DGet H a y o ∧ Q (.bl o.isSome) H) := by
  intro pins s σ H y x v u Q I ry rx h
  obtain ⟨a, o, rfl, g, q⟩ := h
  cases rx
  exact d_in hu I g ry fun s' I' => ⟨.bl o.isSome, H, I', rfl, q⟩
theorem op_notInDk (hu : X.A.units + 1 < cLine) : OpR X (compareOp .NotIn) (fun y x H Q => ∃ a o, x = .ref a ∧ DGet H a y o ∧ Q (.bl (!o.isSome)) H) := by
  intro pins s σ H y x v u Q I ry rx h
  obtain ⟨a, o, rfl, g, q⟩ := h
  cases rx
  exact d_notIn hu I g ry fun s' I' => ⟨.bl (!o.isSome), H, I', rfl, q⟩
/-- d.update(o), o another dict -/
def rDupd : V → List V → Hp → VK → Prop := fun x xs H Q => ∃ (d o : Addr) (kvs more : List (Key × V)), x = .ref d ∧ xs = [.ref o] ∧ d ≠ o ∧ H d = some (.dK kvs) ∧ H o = some (.dK more) ∧ kvs.length + more.length ≤ 1000 ∧ Q .non (upd H d (.dK (mergeK kvs more)))
theorem mt_dupd : MtR X "dict.update" rDupd := by
  intro pins s σ H x xs v us Q I rx rxs h
  obtain ⟨d, o, kvs, more, rfl, rfl, hne, hd, ho, hl, q⟩ := h
  cases rx
  obtain ⟨u, rfl, ru⟩ := rxs.one
  cases ru
  obtain ⟨z1, y1, vs1, rel1, dd1⟩ := dk_of I.hok hd
  obtain ⟨z2, y2, vs2, rel2, dd2⟩ := dk_of I.hok ho
  have e1 := rel1.length
  have e2 := rel2.length
  have hs : (1000 : Nat) ≤ sizeLine := by decide
  refine call_meetsIn PySem.F.slot_dict_update dd1.typeIs PySem.F.entry_dict_update (PySem.F.args_dict_update_2 _ _) (meets_dict_update (mixKind X.prog X.w) d o hne y2)
    ⟨vs1, vs2, dd1, dd2, by omega, fun h' dd' _ sb => ⟨.non, _, ?_, rfl, q⟩⟩
  have he : ∃ q, h'.get? d = some q := let ⟨q, _, _, hq, _⟩ := dd'; ⟨q, hq⟩
  exact d_write I (by rw [hd]; exact True.intro) sb he (dk_new (Nat.le_trans (length_mergeK more kvs) (by omega)) y1 (rel2.merge rel1) dd')
end
end Bm
set_option maxHeartbeats 1000000
/-! what a mill's state is, and what deeds make of it -/
namespace Bm
open PySem L2
structure MS where
  r : List Int
  c : List Int
  z : Bool
  y : Bool
  m : Bool
  p : List Int
  k : List Int
  g : Nat
  a : Nat
  s : List Int
  n : Nat
def MS.new : MS := ⟨List.replicate 8 0, List.replicate 64 0, false, false, false, [], [], 0, 0, [], 0⟩
def isWd (x : Int) : Prop := 0 ≤ x ∧ x < 65536
structure MS.Ok (m : MS) (gs : List Int) : Prop where
  r8 : m.r.length = 8
  c64 : m.c.length = 64
  rw : ∀ x ∈ m.r, isWd x
  cw : ∀ x ∈ m.c, isWd x
  p16 : m.p.length ≤ 16
  pw : ∀ x ∈ m.p, isWd x
  k16 : m.k.length ≤ 16
  kw : ∀ x ∈ m.k, 0 ≤ x
  ga : m.a ≤ gs.length
theorem new_ok (gs : List Int) : MS.Ok MS.new gs := by
  have z : ∀ n, ∀ x ∈ List.replicate n (0 : Int), isWd x := fun n x hx => by
    rw [(List.mem_replicate.mp hx).2]
    exact ⟨by decide, by decide⟩
  exact ⟨rfl, rfl, z 8, z 64, by decide, (fun x hx => by cases hx), by decide, (fun x hx => by cases hx), Nat.zero_le _⟩
def MS.rg (m : MS) (i : Int) : Int := m.r.getD i.toNat 0
theorem bitAnd_nat (x y : Nat) : Builtin.bitAnd (x : Int) (y : Int) = ((x &&& y : Nat) : Int) := rfl
theorem bitOr_nat (x y : Nat) : Builtin.bitOr (x : Int) (y : Int) = ((x ||| y : Nat) : Int) := by rw [Bits.bitOr_pp (Int.natCast_nonneg _) (Int.natCast_nonneg _), Int.toNat_natCast, Int.toNat_natCast]
theorem bitXor_nat (x y : Nat) : Builtin.bitXor (x : Int) (y : Int) = ((x ^^^ y : Nat) : Int) := by rw [Bits.bitXor_pp (Int.natCast_nonneg _) (Int.natCast_nonneg _), Int.toNat_natCast, Int.toNat_natCast]
theorem wd_nat {x : Int} (h : isWd x) : ∃ n : Nat, x = (n : Int) ∧ n < 2 ^ 16 := by
  obtain ⟨n, rfl⟩ := Int.eq_ofNat_of_zero_le h.1
  exact ⟨n, rfl, by have := h.2; omega⟩
theorem wd_of {n : Nat} (h : n < 2 ^ 16) : isWd (n : Int) := ⟨Int.natCast_nonneg _, by have : (2 : Nat) ^ 16 = 65536 := rfl; omega⟩
def oft (b : Int) : Nat := (b % 16).toNat
theorem oft_lt (b : Int) : oft b < 16 := by
  unfold oft
  omega
theorem pow16 {o : Nat} (h : o < 16) : (2 : Int) ^ o = 1 ∨ (2 : Int) ^ o = 2 ∨ (2 : Int) ^ o = 4 ∨ (2 : Int) ^ o = 8 ∨ (2 : Int) ^ o = 16 ∨ (2 : Int) ^ o = 32 ∨ (2 : Int) ^ o = 64 ∨ (2 : Int) ^ o = 128 ∨ (2 : Int) ^ o = 256 ∨ (2 : Int) ^ o = 512 ∨ (2 : Int) ^ o = 1024 ∨ (2 : Int) ^ o = 2048 ∨ (2 : Int) ^ o = 4096 ∨ (2 : Int) ^ o = 8192 ∨ (2 : Int) ^ o = 16384 ∨ (2 : Int) ^ o = 32768 := by
  revert o
  decide +kernel
/-- the word that comes of a deed of two, and its carry -/
def reck (k : Nat) (a b : Int) : Int × Bool := match k with
  | 0 => ((a + b) % 65536, !decide ((a + b) % 65536 = a + b))
  | 1 => ((a - b) % 65536, !decide ((a - b) % 65536 = a - b))
  | 2 => (Builtin.bitAnd a b, false)
  | 3 => (Builtin.bitOr a b, false)
  | 4 => (Builtin.bitXor a b, false)
  | 5 => ((a * 2 ^ oft b) % 65536, !decide ((a * 2 ^ oft b) % 65536 = a * 2 ^ oft b))
  | 6 => (a / 2 ^ oft b, !decide (a / 2 ^ oft b * 2 ^ oft b = a))
  | _ => ((a * 2 ^ oft b) % 65536 + a * 2 ^ oft b / 65536, false)
theorem reck_wd {k : Nat} {a b : Int} (ha : isWd a) (hb : k = 2 ∨ k = 3 ∨ k = 4 → isWd b) : isWd (reck k a b).1 := by
  have md : ∀ x : Int, isWd (x % 65536) := fun x => ⟨by omega, by omega⟩
  have bits : ∀ (f : Nat → Nat → Nat), (∀ x y, x < 2 ^ 16 → y < 2 ^ 16 → f x y < 2 ^ 16) → isWd b → ∀ g : Int → Int → Int, (∀ x y : Nat, g x y = (f x y : Nat)) → isWd (g a b) := fun f hf hb g hg => by
    obtain ⟨x, rfl, hx⟩ := wd_nat ha
    obtain ⟨y, rfl, hy⟩ := wd_nat hb
    rw [hg]
    exact wd_of (hf x y hx hy)
  match k with
  | 0 => exact md _
  | 1 => exact md _
  | 2 => exact bits _ (fun x y hx _ => Nat.lt_of_le_of_lt Nat.and_le_left hx) (hb (.inl rfl)) _ bitAnd_nat
  | 3 => exact bits _ (fun x y hx hy => Nat.or_lt_two_pow hx hy) (hb (.inr (.inl rfl))) _ bitOr_nat
  | 4 => exact bits _ (fun x y hx hy => Nat.xor_lt_two_pow hx hy) (hb (.inr (.inr rfl))) _ bitXor_nat
  | 5 => exact md _
  | 6 =>
    show isWd (a / 2 ^ oft b)
    obtain ⟨h0, h1⟩ := ha
    have h := pow16 (oft_lt b)
    generalize (2 : Int) ^ oft b = e at h
    constructor
    · exact Int.ediv_nonneg h0 (by omega)
    · exact Int.lt_of_le_of_lt (Int.ediv_le_self e h0) h1
  | n + 7 =>
    show isWd ((a * 2 ^ oft b) % 65536 + a * 2 ^ oft b / 65536)
    obtain ⟨h0, h1⟩ := ha
    have h := pow16 (oft_lt b)
    generalize (2 : Int) ^ oft b = e at h
    unfold isWd
    rcases h with rfl | rfl | rfl | rfl | rfl | rfl | rfl | rfl | rfl | rfl | rfl | rfl | rfl | rfl | rfl | rfl <;> omega
/-- the flags and the register that a word comes to -/
def MS.came (m : MS) (d : Int) (w : Int × Bool) : MS := { m with r := m.r.set d.toNat w.1, z := decide (w.1 = 0), y := w.2, m := decide (32767 < w.1) }
def MS.tm (m : MS) (k : Nat) : Bool := match k with
  | 0 => true
  | 1 => m.z
  | 2 => !m.z
  | 3 => m.y
  | 4 => !m.y
  | 5 => m.m
  | _ => !m.m
/-- the place behind a deed of so many words, and one deed more done -/
def MS.past (m : MS) (sz : Nat) : MS := { m with g := m.g + sz, n := m.n + 1 }
/-- what a deed does, the place being behind it -/
def De.act (gs : List Int) (m : MS) : De → MS
  | .sgl k => if k = 2 then { m with g := (m.k.getLastD 0).toNat, k := m.k.dropLast } else m
  | .reg k a => if k = 3 then { m with s := m.s ++ [m.rg a] } else if k = 4 then { m with r := m.r.set a.toNat (gs.getD m.a 0), a := m.a + 1 } else if k = 5 then { m with p := m.p ++ [m.rg a] } else { m with r := m.r.set a.toNat (m.p.getLastD 0), p := m.p.dropLast }
  | .sum k d a b => m.came d (reck k (m.rg a) (m.rg b))
  | .plus d a n => m.came d (reck 0 (m.rg a) n)
  | .set d n => { m with r := m.r.set d.toNat n }
  | .high d n => { m with r := m.r.set d.toNat (n * 512 + m.rg d % 512) }
  | .load d a n => { m with r := m.r.set d.toNat (m.c.getD ((m.rg a + n) % 64).toNat 0) }
  | .store d a n => { m with c := m.c.set ((m.rg a + n) % 64).toNat (m.rg d) }
  | .jump k g _ => if m.tm k = true then { m with g := g.toNat } else m
  | .call g _ => { m with k := m.k ++ [(m.g : Int)], g := g.toNat }
/-- why a deed can't be done -/
def De.hin (gs : List Int) (m : MS) : De → Str
  | .sgl k => if k = 0 then "halt" else if k = 2 then (if m.k.length = 0 then "empty" else "") else ""
  | .reg k _ => if k = 4 then (if m.a = gs.length then "asks" else "") else if k = 5 then (if m.p.length = 16 then "full" else "") else if k = 6 then (if m.p.length = 0 then "empty" else "") else ""
  | .call _ _ => if m.k.length = 16 then "full" else ""
  | _ => ""
theorem str_ne : ("halt" : Str) ≠ "" ∧ ("empty" : Str) ≠ "" ∧ ("asks" : Str) ≠ "" ∧ ("full" : Str) ≠ "" ∧ ("beyond" : Str) ≠ "" ∧ ("none" : Str) ≠ "" := by decide +kernel
theorem set_wd {l : List Int} {i : Nat} {x : Int} (h : ∀ y ∈ l, isWd y) (hx : isWd x) : ∀ y ∈ l.set i x, isWd y := fun y hy => by
  rcases List.mem_or_eq_of_mem_set hy with q | q
  · exact h y q
  · rw [q]; exact hx
theorem getD_wd {l : List Int} (h : ∀ y ∈ l, isWd y) (i : Nat) : isWd (l.getD i 0) := by
  rw [List.getD_eq_getElem?_getD]
  cases q : l[i]? with
  | none => exact ⟨by decide, by decide⟩
  | some x => exact h x (List.mem_of_getElem? q)
theorem last_wd {l : List Int} (h : ∀ y ∈ l, isWd y) : isWd (l.getLastD 0) := by
  cases l with
  | nil => exact ⟨by decide, by decide⟩
  | cons a l =>
    rw [List.getLastD_cons]
    have : (l.getLastD a) ∈ a :: l := by
      rw [← List.getLast_eq_getLastD (h := by simp)]
      exact List.getLast_mem _
    exact h _ this
theorem MS.Ok.reg {m : MS} {gs : List Int} (h : m.Ok gs) (i : Int) : isWd (m.rg i) := getD_wd h.rw _
theorem past_ok {m : MS} {gs : List Int} (h : m.Ok gs) (sz : Nat) : (m.past sz).Ok gs := ⟨h.r8, h.c64, h.rw, h.cw, h.p16, h.pw, h.k16, h.kw, h.ga⟩
theorem came_ok {m : MS} {gs : List Int} (h : m.Ok gs) {d : Int} {w : Int × Bool} (hw : isWd w.1) : (m.came d w).Ok gs := ⟨by show (m.r.set d.toNat w.1).length = 8; rw [List.length_set, h.r8], h.c64, set_wd h.rw hw, h.cw, h.p16, h.pw, h.k16, h.kw, h.ga⟩
theorem MS.Ok.setr {m : MS} {gs : List Int} (h : m.Ok gs) {i : Nat} {x : Int} (hx : isWd x) : MS.Ok { m with r := m.r.set i x } gs := ⟨by rw [List.length_set, h.r8], h.c64, set_wd h.rw hx, h.cw, h.p16, h.pw, h.k16, h.kw, h.ga⟩
theorem act_ok {m : MS} {gs : List Int} {d : De} (h : m.Ok gs) (hd : d.ok) (hg : ∀ x ∈ gs, isWd x) (hh : d.hin gs m = "") : (d.act gs m).Ok gs := by
  obtain ⟨_, s2, s3, s4, _, _⟩ := str_ne
  cases d with
  | sgl k =>
    dsimp only [De.act]
    by_cases c : k = 2
    · rw [if_pos c]
      exact ⟨h.r8, h.c64, h.rw, h.cw, h.p16, h.pw, by rw [List.length_dropLast]; have := h.k16; omega, fun x hx => h.kw x ((List.dropLast_sublist _).subset hx), h.ga⟩
    · rw [if_neg c]
      exact h
  | reg k a =>
    dsimp only [De.act]
    by_cases c3 : k = 3
    · rw [if_pos c3]
      exact ⟨h.r8, h.c64, h.rw, h.cw, h.p16, h.pw, h.k16, h.kw, h.ga⟩
    · rw [if_neg c3]
      by_cases c4 : k = 4
      · rw [if_pos c4]
        have q : m.a ≠ gs.length := fun z => by
          dsimp only [De.hin] at hh
          rw [if_pos c4, if_pos z] at hh
          exact s3 hh
        have h2 := h.setr (i := a.toNat) (getD_wd hg m.a)
        exact ⟨h2.r8, h2.c64, h2.rw, h2.cw, h2.p16, h2.pw, h2.k16, h2.kw, by have := h.ga; show m.a + 1 ≤ _; omega⟩
      · rw [if_neg c4]
        by_cases c5 : k = 5
        · rw [if_pos c5]
          have q : m.p.length ≠ 16 := fun z => by
            dsimp only [De.hin] at hh
            rw [if_neg c4, if_pos c5, if_pos z] at hh
            exact s4 hh
          refine ⟨h.r8, h.c64, h.rw, h.cw, by rw [List.length_append]; have := h.p16; simp; omega, fun x hx => ?_, h.k16, h.kw, h.ga⟩
          rcases List.mem_append.mp hx with z | z
          · exact h.pw x z
          · rw [List.mem_singleton.mp z]
            exact h.reg a
        · rw [if_neg c5]
          have h2 := h.setr (i := a.toNat) (last_wd h.pw)
          exact ⟨h2.r8, h2.c64, h2.rw, h2.cw, by rw [List.length_dropLast]; have := h.p16; omega, fun x hx => h.pw x ((List.dropLast_sublist _).subset hx), h2.k16, h2.kw, h2.ga⟩
  | sum k d a b => exact came_ok h (reck_wd (h.reg a) fun _ => h.reg b)
  | plus d a n => exact came_ok h (reck_wd (h.reg a) fun z => by omega)
  | set d n => exact h.setr ⟨hd.2.1, by have := hd.2.2; omega⟩
  | high d n =>
    refine h.setr ?_
    have h1 := h.reg d
    obtain ⟨_, h2, h3⟩ := hd
    unfold isWd at h1 ⊢
    omega
  | load d a n => exact h.setr (getD_wd h.cw _)
  | store d a n => exact ⟨h.r8, by show (m.c.set _ _).length = 64; rw [List.length_set, h.c64], h.rw, set_wd h.cw (h.reg d), h.p16, h.pw, h.k16, h.kw, h.ga⟩
  | jump k g f =>
    dsimp only [De.act]
    split
    · exact ⟨h.r8, h.c64, h.rw, h.cw, h.p16, h.pw, h.k16, h.kw, h.ga⟩
    · exact h
  | call g f =>
    have q : m.k.length ≠ 16 := fun z => by
      dsimp only [De.hin] at hh
      rw [if_pos z] at hh
      exact s4 hh
    refine ⟨h.r8, h.c64, h.rw, h.cw, h.p16, h.pw, by show (m.k ++ _).length ≤ 16; rw [List.length_append]; have := h.k16; simp; omega, fun x hx => ?_, h.ga⟩
    rcases List.mem_append.mp hx with z | z
    · exact h.kw x z
    · rw [List.mem_singleton.mp z]
      exact Int.natCast_nonneg _
end Bm
set_option maxHeartbeats 1000000
/-! a mill as an object -/
namespace Bm
open PySem PySem.Spec PyProof.Rows L2
/-- what its attributes hold -/
structure Ml where
  de : V
  gi : V
  as_ : V
  sa : V
  st : V
  pa : V
  re : V
  ce : V
  fl : V
  pi : V
  ca : V
  pl : V
def Ml.f (l : Ml) : List (Str × V) := [("_deeds", l.de), ("_given", l.gi), ("_asked", l.as_), ("_said", l.sa), ("_stops", l.st), ("_past", l.pa), ("_registers", l.re), ("_cells", l.ce), ("_flags", l.fl), ("_pile", l.pi), ("_calls", l.ca), ("_place", l.pl)]
theorem f_de (l : Ml) : l.f.lookup ("_deeds" : Str) = some l.de := by kernel_rfl
theorem f_gi (l : Ml) : l.f.lookup ("_given" : Str) = some l.gi := by kernel_rfl
theorem f_as (l : Ml) : l.f.lookup ("_asked" : Str) = some l.as_ := by kernel_rfl
theorem f_sa (l : Ml) : l.f.lookup ("_said" : Str) = some l.sa := by kernel_rfl
theorem f_st (l : Ml) : l.f.lookup ("_stops" : Str) = some l.st := by kernel_rfl
theorem f_pa (l : Ml) : l.f.lookup ("_past" : Str) = some l.pa := by kernel_rfl
theorem f_re (l : Ml) : l.f.lookup ("_registers" : Str) = some l.re := by kernel_rfl
theorem f_ce (l : Ml) : l.f.lookup ("_cells" : Str) = some l.ce := by kernel_rfl
theorem f_fl (l : Ml) : l.f.lookup ("_flags" : Str) = some l.fl := by kernel_rfl
theorem f_pi (l : Ml) : l.f.lookup ("_pile" : Str) = some l.pi := by kernel_rfl
theorem f_ca (l : Ml) : l.f.lookup ("_calls" : Str) = some l.ca := by kernel_rfl
theorem f_pl (l : Ml) : l.f.lookup ("_place" : Str) = some l.pl := by kernel_rfl
theorem p_as (l : Ml) (v : V) : putF "_asked" v l.f = Ml.f { l with as_ := v } := by kernel_rfl
theorem p_re (l : Ml) (v : V) : putF "_registers" v l.f = Ml.f { l with re := v } := by kernel_rfl
theorem p_ce (l : Ml) (v : V) : putF "_cells" v l.f = Ml.f { l with ce := v } := by kernel_rfl
theorem p_fl (l : Ml) (v : V) : putF "_flags" v l.f = Ml.f { l with fl := v } := by kernel_rfl
theorem p_pi (l : Ml) (v : V) : putF "_pile" v l.f = Ml.f { l with pi := v } := by kernel_rfl
theorem p_ca (l : Ml) (v : V) : putF "_calls" v l.f = Ml.f { l with ca := v } := by kernel_rfl
theorem p_pl (l : Ml) (v : V) : putF "_place" v l.f = Ml.f { l with pl := v } := by kernel_rfl
theorem f_len (l : Ml) : l.f.length < 1000 := by show 12 < 1000; decide
theorem f_no (l : Ml) : ∀ m ∈ (["step", "run", "back", "give", "stop_at", "said", "memory", "state", "_go", "_hindrance", "_next", "_go_on", "_put", "_got", "_cell", "_came"] : List Str), l.f.lookup m = none := by
  intro m hm
  simp only [List.mem_cons, List.not_mem_nil, or_false] at hm
  rcases hm with rfl | rfl | rfl | rfl | rfl | rfl | rfl | rfl | rfl | rfl | rfl | rfl | rfl | rfl | rfl | rfl <;> kernel_rfl
def FN : List Str := ["_deeds", "_given", "_asked", "_said", "_stops", "_past", "_registers", "_cells", "_flags", "_pile", "_calls", "_place"]
/-- the class as the top has made it -/
structure MT (K : PySem.W.Frag) (C : Addr) : Prop where
  cl : Cls K C
  n : ∀ f ∈ FN, NoAttr K C f
/-! a method known by its name -/
structure KnM (P : Program) (w : World) (K : PySem.W.Frag) (mg : Str → Option Value) (base : Heap) (CX : CXT) (k : Nat) (C : Addr) (m : Str) (ps : List Str) (dvs : List V) (sp : Sp) : Prop where
  ex : ∃ (f : Addr) (fd : FuncData) (ds : List Value), Meth K C m f ∧ FnOk P w K mg base CX k f fd ps sp ∧ Binds K fd ps ds ∧ Vals dvs ds
section
variable {X : Cx} {CX : CXT} {k j : Nat} {m : Str} {ps : List Str} {dvs : List V} {sp : Sp} {E : XK} {apos pos : Pos} {o e : Expr} {es : List Expr} {t : TA} {ta : TE} {C : Addr} {pl : Sem Bool}
theorem pkm (n : KnM X.prog X.w X.K X.mg X.base CX k C m ps dvs sp) (he : L2.PE X o ta) (c : Cls X.K C) (hr : Room j X.A) (hj : k ≤ j) (hx : Passes CX X E) (ha : PA X (e :: es) t)
    (star1 : starEach (e :: es) X.env = (false, eval e X.env) :: starEach es X.env := by rfl) (star2 : (backTo pos (starEach es X.env)).any (·.1) = false := by rfl)
    (ht : eval (.Call (.Attribute o m apos) (e :: es) [] pos) X.env = (do let ov ← eval o X.env; standAt apos.atName; let (f, first) ← holding [ov] (getMethod ov m pl); callWith pos f first (backTo pos (starEach (e :: es) X.env)) (backToKw pos (keywordEach [] X.env))) := by rfl) :
    L2.PE X (.Call (.Attribute o m apos) (e :: es) [] pos) (tMeth C m sp dvs E ta t) := by
  obtain ⟨f, fd, ds, h1, h2, h3, h4⟩ := n.ex
  exact pe_meth he c h1 h2 (hr.mono hj) h3 h4 hx ha star1 star2 ht
theorem pkm0 (n : KnM X.prog X.w X.K X.mg X.base CX k C m ps dvs sp) (he : L2.PE X o ta) (c : Cls X.K C) (hr : Room j X.A) (hj : k ≤ j) (hx : Passes CX X E)
    (ht : eval (.Call (.Attribute o m apos) [] [] pos) X.env = (do let ov ← eval o X.env; standAt apos.atName; let (f, first) ← holding [ov] (getMethod ov m pl); callWith pos f first (backTo pos (starEach [] X.env)) (backToKw pos (keywordEach [] X.env))) := by rfl) :
    L2.PE X (.Call (.Attribute o m apos) [] [] pos) (tMeth C m sp dvs E ta tNil) := by
  obtain ⟨f, fd, ds, h1, h2, h3, h4⟩ := n.ex
  exact pe_meth0 he c h1 h2 (hr.mono hj) h3 h4 hx ht
end
end Bm
set_option maxHeartbeats 1000000
namespace Bm
open PySem PySem.Spec PyProof.Rows L2
def fsRow : List V → List (Str × V)
  | [r, y] => [("why", y), ("row", r)]
  | _ => []
def okRow : List V → Prop := fun ws => ∃ (n : Int) (y : Str), ws = [.int n, .str y] ∧ n.natAbs.log2 < 1920 ∧ y.length ≤ 100
abbrev BadRo (P : Program) (w : World) (K : PySem.W.Frag) (mg : Str → Option Value) (base : Heap) : Prop := BadN P w K mg base "BadRow" ["self", "row", "why"] (spIni (He.ga K "BadRow") fsRow okRow)
section
variable {P : Program} {w : World} {K : PySem.W.Frag} {mg : Str → Option Value} {base : Heap}
theorem app_lenR (a b : Str) : (a ++ b).length = a.length + b.length := Array.size_append ..
theorem ini_BadRow (S : SupI P K "BadRow" "BadRow.__init__" s_init_BadRow) (hm : mg "super" = none) (hno : PySem.W.findIn K (.ref (He.ga K "BadRow")) "row" = some none) (hno2 : PySem.W.findIn K (.ref (He.ga K "BadRow")) "why" = some none) (g : mg "BadRow" = some (.ref (He.ga K "BadRow"))) : BadRo P w K mg base := by
  obtain ⟨⟨cell, cda, kV, doc, pm, ct, an, F, hcd⟩, T, hi, ht⟩ := S
  refine ⟨g, T, _, _, hi, ht, init_fn2 (N := ["self", "row", "why", "__class__"]) (ps := ["self", "row", "why"]) (k := 0) (e := _) (rest := _) rfl F T hcd (NdefX.nscope_by (by decide +kernel)) rfl rfl rfl rfl hm (fun _ => rfl) (fun vs H Q E h => ?_) (fun A outer s H vs Q E h => ?_), .all fun us hl => match us, hl with | [_, _, _], _ => rfl⟩
  · obtain ⟨a, ws, rfl, ⟨n, y, rfl, _⟩, _⟩ := h
    rfl
  · obtain ⟨a, ws, rfl, ⟨n, y, rfl, hn, hy⟩, ha, q⟩ := h
    refine ⟨_, _, a, _, rfl, ha, pe_joined (.cons pe_str (.cons (pe_fmt (pv 1)) (.cons pe_str (.cons (pe_fmt (pv 2)) .nil)))), pss_cons (ps_ost (pv 0) (pv 1)) (pss_one (ps_ost (pv 0) (pv 2))), rfl, rfl, rfl, ?_⟩
    have e0 : (Str.empty).length = 0 := rfl
    have e1 := int_text_len_1921 hn
    have e4 : ("row " : Str).length = 4 := by decide +kernel
    have e5 : (": " : Str).length = 2 := by decide +kernel
    refine ⟨_, rfl, ?_, _, rfl, .inr ⟨n, rfl, hn, ?_⟩⟩
    · rw [app_lenR, e0, e4]
      decide
    have n1 := e1
    have l1 : (Str.empty ++ "row " ++ PySem.Str.ofString (toString n)).length ≤ 3000 := by
      rw [app_lenR, app_lenR, e0, e4]
      omega
    have l2 : (Str.empty ++ "row " ++ PySem.Str.ofString (toString n) ++ ": ").length ≤ 3002 := by
      rw [app_lenR, e5]
      omega
    have l3 : (Str.empty ++ "row " ++ PySem.Str.ofString (toString n) ++ ": " ++ y).length ≤ 3102 := by
      rw [app_lenR]
      omega
    refine ⟨_, rfl, line5 (by omega), _, rfl, line5 (by omega), _, rfl, .inl ⟨y, rfl, line5 (by omega), _, rfl, line5 (by omega), Nat.le_refl _, ha, ?_⟩⟩
    refine ⟨_, rfl, _, rfl, a, _, rfl, T, hno, .inl ⟨ha, fun d hd hda => ?_⟩⟩
    refine ⟨_, rfl, _, rfl, a, _, rfl, T, hno2, .inr ⟨d, [("row", V.int n)], upd_same, by rw [upd_ne hda]; exact upd_same, by simp, ?_⟩⟩
    refine q d _ hd hda ?_ upd_same fun b h1 h2 => ?_
    · rw [upd_ne hda.symm]
      exact upd_same
    · rw [upd_ne h2, upd_ne h1, upd_ne h2]
end
end Bm
set_option maxHeartbeats 1000000
namespace Bm
open PySem PySem.Spec PyProof.Rows L2
theorem huT {A : Around} {k : Nat} (hr : Room k A) : A.units + 1 < cLine := by
  have := hu65 hr
  omega
theorem passT {X : Cx} {E : XK} {E₁ : Value → Shared → Prop} (hs : X.stack = X.env :: X.outer := by rfl) (hf : X.env.frame = some X.env.locals := by rfl) (hex : X.ex = [] := by rfl)
    (hx : X.xe = (fun e s' => wpAny (model X.prog X.w) X.A (leaving X.env e) (fun _ s'' => L2.CX X.prog X.w X.outer X.H_0 X.s_0 E e s'') E₁ s') := by rfl) : Passes (L2.CX X.prog X.w) X E :=
  passes_call (W := fun cls d _ H => E cls d H) (takes_of hs hf hex hx) fun _ _ _ _ h => h
theorem ps_neverT {X : Cx} {st : Stmt} : PS X st (fun _ _ _ => False) := ⟨fun _ _ _ _ _ _ h => h.elim⟩
theorem small_lg {n : Nat} (h : n ≤ 100000) : ((n : Nat) : Int).natAbs.log2 < 1920 := by
  rw [Int.natAbs_natCast]
  by_cases c : n = 0
  · rw [c]; decide
  · have : n.log2 < 17 := (Nat.log2_lt c).mpr (by omega)
    omega
theorem while_n {c : TT} {tb : TS} {D : Ends} {σ : L2.St} {H : Hp} (Pv : Nat → L2.St → Hp → Prop) (m0 : Nat) (h0 : Pv m0 σ H)
    (hs : ∀ m σ H, Pv m σ H → c σ H fun b H1 => if b = true then tb { D with nx := fun σ' H' => ∃ m', m' < m ∧ Pv m' σ' H', ct := fun σ' H' => ∃ m', m' < m ∧ Pv m' σ' H', bk := D.nx } σ H1 else D.nx σ H1)
    (mono : ∀ σ H Q Q', (∀ b H1, Q b H1 → Q' b H1) → c σ H Q → c σ H Q') : tWhile c tb D σ H := by
  refine ⟨Pv, ⟨m0, h0⟩, fun m σ H p => ?_⟩
  refine mono σ H _ _ (fun b H1 q => ?_) (hs m σ H p)
  cases b with
  | true => exact ⟨_, fun σ' H' h => h, q⟩
  | false => exact q
/-- BadRow is refused, with a row's number and why -/
def Rfs (K : PySem.W.Frag) (E : XK) (H : Hp) (n : Nat) (y : Str) : Prop := ∀ d H', Same H H' → H d = none → H' d = some (.xd [("why", .str y), ("row", .int (n : Nat))]) → E (.ref (He.ga K "BadRow")) (some d) H'
theorem Rfs.same {K : PySem.W.Frag} {E : XK} {H H' : Hp} {n : Nat} {y : Str} (h : Rfs K E H n y) (s : Same H H') : Rfs K E H' n y := fun d H2 s2 hd => h d H2 (Same.trans s s2) (free_of s hd)
/-- rows in a list -/
def Rows (C : Addr) (H : Hp) (rl : Addr) (rs : List Rw) : Prop := ∃ xs : List (Addr × Addr × Addr), H rl = some (.lst (xs.map fun x => V.ref x.1)) ∧ xs.length = rs.length ∧ ∀ (i : Nat) (x : Addr × Addr × Addr) (r : Rw), xs[i]? = some x → rs[i]? = some r → RAtX C H x.1 x.2.1 x.2.2 r ∧ x.1 ≠ rl ∧ x.2.1 ≠ rl ∧ x.2.2 ≠ rl
theorem Rows.same {C : Addr} {H H' : Hp} {rl : Addr} {rs : List Rw} (h : Rows C H rl rs) (e : Same H H') : Rows C H' rl rs := by
  obtain ⟨xs, h1, h2, h3⟩ := h
  exact ⟨xs, e _ _ h1, h2, fun i x r hx hr => ⟨(h3 i x r hx hr).1.same e, (h3 i x r hx hr).2⟩⟩
theorem Rows.push {C : Addr} {H : Hp} {rl a tl pl : Addr} {rs : List Rw} {r : Rw} (h : Rows C H rl rs) (g : RAtX C H a tl pl r) (n1 : a ≠ rl) (n2 : tl ≠ rl) (n3 : pl ≠ rl) : ∃ vs, H rl = some (.lst vs) ∧ vs.length = rs.length ∧ Rows C (upd H rl (.lst (vs ++ [.ref a]))) rl (rs ++ [r]) := by
  obtain ⟨xs, h1, h2, h3⟩ := h
  refine ⟨_, h1, by rw [List.length_map]; exact h2, xs ++ [(a, tl, pl)], by rw [upd_same, List.map_append]; rfl, by rw [List.length_append, List.length_append, h2]; rfl, fun i x q hx hq => ?_⟩
  by_cases c : i < xs.length
  · rw [List.getElem?_append_left c] at hx
    rw [List.getElem?_append_left (by omega)] at hq
    obtain ⟨k1, k2, k3, k4⟩ := h3 i x q hx hq
    exact ⟨k1.upd k2 k3 k4, k2, k3, k4⟩
  · rw [List.getElem?_append_right (by omega)] at hx
    rw [List.getElem?_append_right (by omega)] at hq
    have e : i - xs.length = 0 := by
      cases d : i - xs.length with
      | zero => rfl
      | succ n => rw [d] at hx; cases hx
    rw [e] at hx
    rw [show i - rs.length = 0 by omega] at hq
    obtain rfl := Option.some.inj hx
    obtain rfl := Option.some.inj hq
    exact ⟨g.upd n1 n2 n3, n1, n2, n3⟩
/-- the exchange, before any macro -/
def exF (rl ml : Addr) : List (Str × V) := [("rows", .ref rl), ("macros", .ref ml), ("calls", .int 0)]
theorem xf_rows (rl ml : Addr) : (exF rl ml).lookup ("rows" : Str) = some (.ref rl) := by kernel_rfl
theorem xf_macros (rl ml : Addr) : (exF rl ml).lookup ("macros" : Str) = some (.ref ml) := by kernel_rfl
def EFN : List Str := ["rows", "macros", "calls"]
theorem m_rows : ("rows" : Str) ∈ EFN := by decide +kernel
theorem m_macros : ("macros" : Str) ∈ EFN := by decide +kernel
theorem m_calls : ("calls" : Str) ∈ EFN := by decide +kernel
theorem xf_no (rl ml : Addr) : ∀ m ∈ (["tell", "put", "put_one"] : List Str), (exF rl ml).lookup m = none := by
  intro m hm
  simp only [List.mem_cons, List.not_mem_nil, or_false] at hm
  rcases hm with rfl | rfl | rfl <;> kernel_rfl
def EAt (CE : Addr) (H : Hp) (x rl ml : Addr) : Prop := ∃ dx, H x = some (.ins CE dx (exF rl ml)) ∧ H ml = some (.dK []) ∧ x ≠ rl ∧ ml ≠ rl
inductive RsN (α : Type) where
  | ok (x : α)
  | bad (n : Nat) (why : Str)
/-- the rows that a text's rows come to, of no macros -/
def exG : Nat → List Rw → List Tx → RsN (List Rw)
  | _, acc, [] => .ok acc
  | n, acc, t :: ts => match (rowT n t).label with
    | some l => if isNm l = false then .bad n "form" else if acc.length = 300 then .bad n "long" else exG (n + 1) (acc ++ [rowT n t]) ts
    | none => if acc.length = 300 then .bad n "long" else exG (n + 1) (acc ++ [rowT n t]) ts
def NoMac (ts : List Tx) : Prop := ∀ t ∈ ts, ∀ n, wS (rowT n t) ≠ ".macro"
section
variable {P : Program} {w : World} {K : PySem.W.Frag} {mg : Str → Option Value} {base : Heap} {f CR CE : Addr} {fd : FuncData} {dvs : List V}
/-! check_label -/
def spCheckL (K : PySem.W.Frag) (CR : Addr) : Sp := fun vs H Q E => ∃ (a : Addr) (r : Rw), vs = [.ref a] ∧ RAt CR H a r ∧ (∀ l, r.label = some l → ClT l ∧ l.length ≤ 50000) ∧ r.number ≤ 100000 ∧
  ((∀ l, r.label = some l → isNm l = true) → ∀ H', Same H H' → Q .non H') ∧ (∀ l, r.label = some l → isNm l = false → ∀ H', Same H H' → Rfs K E H' r.number "form")
abbrev N_check_label : List Str := ["row"]
theorem sc_check_label : FnScope ["row"] ["row"] (defScope s_check_label) := ⟨rfl, rfl, rfl, by decide +kernel, rfl, by decide +kernel, by decide +kernel⟩
theorem ok_checkl (F : FnP K "check_label" s_check_label dvs f fd) (T : CT K CR RFN) (k_is_name : KnIsNm P w K mg base) (b_BadRow : BadRo P w K mg base) : FnOk P w K mg base (L2.CX P w) 3 f fd ["row"] (spCheckL K CR) := by
  refine F.ok sc_check_label (fun vs H Q E h => ?_) (fun cdv A outer s H vs Q E hr h => ?_)
  · obtain ⟨a, r, rfl, _⟩ := h
    rfl
  · obtain ⟨a, r, rfl, hA, hl, hn, qy, qn⟩ := h
    refine ⟨_, (pss_one (ps_if (PW.pt (pw_and (pt_cmpR op_notN (pe_fld (pv 0) rfl) pe_non (nomark _)) (pw_and1 (pt_not (pt_val (pk k_is_name hr (by decide) rfl pass0 (pa_cons (pe_fld (pv 0) rfl) pa_nil))))))) (pss_one (ps_raise rfl (takes_of rfl rfl rfl rfl) (pmk_bad b_BadRow hr (by decide) rfl (pa_cons (pe_fld (pv 0) rfl) (pa_cons pe_str pa_nil))))) pss_nil)), ?_⟩
    obtain ⟨dx, tl, pl, h1, h2, h3⟩ := hA
    refine ⟨_, rfl, a, CR, dx, _, _, rfl, h1, T.cl, T.n _ m_label, rf_label _ _ _ _ _ _, rfl, _, rfl, ?_⟩
    cases hlab : r.label with
    | none =>
      rw [hlab] at qy
      exact itF rfl (qy (fun l h => by cases h) _ (Same.refl _))
    | some l =>
      rw [hlab] at hl qy qn h1
      obtain ⟨l1, l2⟩ := hl l rfl
      refine itT rfl ⟨_, rfl, a, CR, dx, _, _, rfl, h1, T.cl, T.n _ m_label, rf_label _ _ _ _ _ _, l, rfl, l1, l2, fun H1 s1 => ⟨_, rfl, ?_⟩⟩
      cases hn1 : isNm l with
      | true => exact itF rfl (qy (fun l' h => by rw [← Option.some.inj h]; exact hn1) _ s1)
      | false =>
        refine itT rfl ⟨_, rfl, a, CR, dx, _, _, rfl, s1 _ _ h1, T.cl, T.n _ m_number, rf_number _ _ _ _ _ _, by simp, ⟨_, _, rfl, small_lg hn, by decide +kernel⟩, fun d hd => qn l rfl hn1 _ s1 d _ (Same.add hd) hd upd_same⟩
abbrev KnChkL (P : Program) (w : World) (K : PySem.W.Frag) (mg : Str → Option Value) (base : Heap) (CR : Addr) : Prop := Kn P w K mg base (L2.CX P w) 3 "check_label" ["row"] [] (spCheckL K CR)
/-! Exchange -/
def spExI (CE : Addr) : Sp := fun vs H Q _ => ∃ (H0 : Hp) (x dx : Addr), vs = [.ref x] ∧ H0 x = none ∧ H0 dx = none ∧ dx ≠ x ∧ H = upd (upd H0 dx (.own x)) x (.ins CE dx []) ∧ ∀ rl ml H', Same H0 H' → H0 rl = none → EAt CE H' x rl ml → H' rl = some (.lst []) → Q .non H'
abbrev N_Exchange____init__ : List Str := ["self"]
theorem sc_Exchange____init__ : FnScope ["self"] ["self"] (defScope s_Exchange____init__) := ⟨rfl, rfl, rfl, by decide +kernel, rfl, by decide +kernel, by decide +kernel⟩
theorem ok_exI (F : FunD K "__init__" "Exchange.__init__" (defArgs s_Exchange____init__) (defBody s_Exchange____init__) (defScope s_Exchange____init__) dvs [] f fd) (T : CT K CE EFN) : FnOk P w K mg base CX0 1 f fd ["self"] (spExI CE) := by
  refine F.ok sc_Exchange____init__ (fun vs H Q E h => ?_) (fun cdv A outer s H vs Q E hr h => ?_)
  · obtain ⟨H0, x, dx, rfl, _⟩ := h
    rfl
  · obtain ⟨H0, x, dx, rfl, hx, hdx, hne, rfl, q⟩ := h
    refine ⟨_, PSs.nox (pss_cons (ps_fld (pv 0) (pe_lst pa_nil) rfl)
      (pss_cons (ps_fld (pv 0) pe_dnewK rfl)
      (pss_one (ps_fld (pv 0) pe_int rfl)))), ?_⟩
    have e0 : (upd (upd H0 dx (.own x)) x (.ins CE dx [])) x = some (.ins CE dx []) := upd_same
    have s0 : Same H0 (upd (upd H0 dx (.own x)) x (.ins CE dx [])) := Same.mut (Same.add hdx) hx
    generalize upd (upd H0 dx (.own x)) x (.ins CE dx []) = G0 at e0 s0 ⊢
    refine sqT ?_
    refine ⟨line5 (by simp), fun rl hrl => ?_⟩
    have s1 : Same G0 (upd G0 rl (.lst [])) := Same.add hrl
    have e1 : (upd G0 rl (.lst [])) rl = some (.lst []) := upd_same
    generalize upd G0 rl (.lst []) = G1 at s1 e1 ⊢
    have ex1 := s1 _ _ e0
    have nrx : rl ≠ x := ne_of_free e0 hrl
    refine ⟨_, rfl, x, CE, dx, _, rfl, ex1, T.cl, T.n _ m_rows, by decide, ?_⟩
    have ex2 : upd G1 x (.ins CE dx (putF "rows" (.ref rl) [])) x = some (.ins CE dx [("rows", .ref rl)]) := upd_same
    have er2 : upd G1 x (.ins CE dx (putF "rows" (.ref rl) [])) rl = some (.lst []) := by rw [upd_ne nrx]; exact e1
    have sx2 : Same H0 (upd G1 x (.ins CE dx (putF "rows" (.ref rl) []))) := Same.mut (Same.trans s0 s1) hx
    dsimp only
    generalize upd G1 x (.ins CE dx (putF "rows" (.ref rl) [])) = G2 at ex2 er2 sx2 ⊢
    refine sqT ?_
    refine fun ml hml => ?_
    have s3 : Same G2 (upd G2 ml (.dK [])) := Same.add hml
    have e3 : (upd G2 ml (.dK [])) ml = some (.dK []) := upd_same
    generalize upd G2 ml (.dK []) = G3 at s3 e3 ⊢
    have nmx : ml ≠ x := ne_of_free ex2 hml
    have nmr : ml ≠ rl := ne_of_free er2 hml
    refine ⟨_, rfl, x, CE, dx, _, rfl, s3 _ _ ex2, T.cl, T.n _ m_macros, by simp, ?_⟩
    have ex4 : upd G3 x (.ins CE dx (putF "macros" (.ref ml) [("rows", .ref rl)])) x = some (.ins CE dx [("rows", .ref rl), ("macros", .ref ml)]) := upd_same
    have er4 : upd G3 x (.ins CE dx (putF "macros" (.ref ml) [("rows", .ref rl)])) rl = some (.lst []) := by rw [upd_ne nrx]; exact s3 _ _ er2
    have em4 : upd G3 x (.ins CE dx (putF "macros" (.ref ml) [("rows", .ref rl)])) ml = some (.dK []) := by rw [upd_ne nmx]; exact e3
    have sx4 : Same H0 (upd G3 x (.ins CE dx (putF "macros" (.ref ml) [("rows", .ref rl)]))) := Same.mut (Same.trans sx2 s3) hx
    dsimp only
    generalize upd G3 x (.ins CE dx (putF "macros" (.ref ml) [("rows", .ref rl)])) = G4 at ex4 er4 em4 sx4 ⊢
    refine ⟨_, rfl, x, CE, dx, _, rfl, ex4, T.cl, T.n _ m_calls, by simp, ?_⟩
    refine q rl ml _ (Same.mut sx4 hx) (free_of s0 hrl) ⟨dx, upd_same, by rw [upd_ne nmx]; exact em4, nrx.symm, nmr⟩ ?_
    rw [upd_ne nrx]
    exact er4
abbrev KnEx (P : Program) (w : World) (K : PySem.W.Frag) (mg : Str → Option Value) (base : Heap) (C : Addr) : Prop := C8.Mak P w K mg base 1 "Exchange" C (spExI C) []
/-- but for the rows' list all stays -/
def Ebut (rl : Addr) (H H' : Hp) : Prop := ∀ b o, b ≠ rl → H b = some o → H' b = some o
def spPut1 (K : PySem.W.Frag) (CR CE : Addr) : Sp := fun vs H Q E => ∃ (x rl ml a tl pl : Addr) (rs : List Rw) (r : Rw), vs = [.ref x, .ref a] ∧ EAt CE H x rl ml ∧ Rows CR H rl rs ∧ RAtX CR H a tl pl r ∧ a ≠ rl ∧ tl ≠ rl ∧ pl ≠ rl ∧ rs.length ≤ 300 ∧ r.number ≤ 100000 ∧
  (rs.length ≠ 300 → ∀ H', Ebut rl H H' → Rows CR H' rl (rs ++ [r]) → Q .non H') ∧ (rs.length = 300 → ∀ H', Same H H' → Rfs K E H' r.number "long")
abbrev N_Exchange__put_one : List Str := ["self", "row"]
theorem sc_Exchange__put_one : FnScope ["self", "row"] ["self", "row"] (defScope s_Exchange__put_one) := ⟨rfl, rfl, rfl, by decide +kernel, rfl, by decide +kernel, by decide +kernel⟩
theorem ok_put1 (F : FunD K "put_one" "Exchange.put_one" (defArgs s_Exchange__put_one) (defBody s_Exchange__put_one) (defScope s_Exchange__put_one) dvs [] f fd) (TR_ : CT K CR RFN) (T : CT K CE EFN) (b_BadRow : BadRo P w K mg base) (g_ROWS_MOST : ∃ t, mg "ROWS_MOST" = some (.int 300 t)) (g_len : mg "len" = none) : FnOk P w K mg base (L2.CX P w) 3 f fd ["self", "row"] (spPut1 K CR CE) := by
  obtain ⟨_, g_ROWS_MOST⟩ := g_ROWS_MOST
  refine F.ok sc_Exchange__put_one (fun vs H Q E h => ?_) (fun cdv A outer s H vs Q E hr h => ?_)
  · obtain ⟨x, rl, ml, a, tl, pl, rs, r, rfl, _⟩ := h
    rfl
  · obtain ⟨x, rl, ml, a, tl, pl, rs, r, rfl, hE, hR, hA, n1, n2, n3, hl, hn, qy, qn⟩ := h
    refine ⟨_, (pss_cons (ps_if (pt_cmpR op_eq (pe_callB call_len rfl g_len boot_len (pa_cons (pe_fld (pv 0) rfl) pa_nil)) (pe_glob (v := .int 300) rfl g_ROWS_MOST ⟨_, rfl⟩) (nomark _)) (pss_one (ps_raise rfl (takes_of rfl rfl rfl rfl) (pmk_bad b_BadRow hr (by decide) rfl (pa_cons (pe_fld (pv 1) rfl) (pa_cons pe_str pa_nil))))) pss_nil)
      (pss_one (ps_expr (pe_bm PySem.F.plainAttrs_list PySem.F.slot_list_append PySem.F.type_list_append mt_append (pe_fld (pv 0) rfl) (pa_cons (pv 1) pa_nil))))), ?_⟩
    obtain ⟨dx, e1, e2, e3, e4⟩ := hE
    refine sqT ?_
    obtain ⟨xs, r1, r2, r3⟩ := id hR
    have lx : (xs.map fun x => V.ref x.1).length = rs.length := by rw [List.length_map]; exact r2
    refine ⟨_, rfl, x, CE, dx, _, _, rfl, e1, T.cl, T.n _ m_rows, xf_rows _ _, _, _, rfl, .inl ⟨_, SqL.of r1, rfl⟩, rfl, _, rfl, ?_⟩
    rw [lx]
    by_cases c : rs.length = 300
    · rw [decide_eq_true (by rw [c]; rfl)]
      obtain ⟨dr, h1, h2, h3⟩ := hA
      exact iteT ⟨_, rfl, a, CR, dr, _, _, rfl, h1, TR_.cl, TR_.n _ m_number, rf_number _ _ _ _ _ _, by simp, ⟨_, _, rfl, small_lg hn, by decide +kernel⟩, fun d hd => qn c _ (Same.refl _) d _ (Same.add hd) hd upd_same⟩
    · rw [decide_eq_false (fun z => c (by have := V.int.inj z; omega))]
      refine iteF ?_
      obtain ⟨vs, v1, v2, v3⟩ := hR.push hA n1 n2 n3
      refine ⟨_, rfl, x, CE, dx, _, _, rfl, e1, T.cl, T.n _ m_rows, xf_rows _ _, .inl ⟨rfl, _, SqL.of v1⟩, _, rfl, rl, vs, _, rfl, rfl, v1, lineT (by omega), ?_⟩
      exact qy c _ (fun b o hb h => by rw [upd_ne hb]; exact h) v3
abbrev KnPut1 (P : Program) (w : World) (K : PySem.W.Frag) (mg : Str → Option Value) (base : Heap) (CR CE : Addr) : Prop := KnM P w K mg base (L2.CX P w) 3 CE "put_one" ["self", "row"] [] (spPut1 K CR CE)
def spPut (K : PySem.W.Frag) (CR CE : Addr) : Sp := fun vs H Q E => ∃ (x rl ml a tl pl : Addr) (rs : List Rw) (r : Rw) (k : Nat), vs = [.ref x, .ref a, .int (k : Nat)] ∧ EAt CE H x rl ml ∧ Rows CR H rl rs ∧ RAtX CR H a tl pl r ∧ a ≠ rl ∧ tl ≠ rl ∧ pl ≠ rl ∧ rs.length ≤ 300 ∧ r.number ≤ 100000 ∧ wS r ≠ ".macro" ∧
  (rs.length ≠ 300 → ∀ H', Ebut rl H H' → Rows CR H' rl (rs ++ [r]) → Q .non H') ∧ (rs.length = 300 → ∀ H', Same H H' → Rfs K E H' r.number "long")
abbrev N_Exchange__put : List Str := ["self", "row", "within"]
theorem sc_Exchange__put : FnScope ["self", "row", "within"] ["self", "row", "within"] (defScope s_Exchange__put) := ⟨rfl, rfl, rfl, by decide +kernel, rfl, by decide +kernel, by decide +kernel⟩
theorem ok_put (F : FunD K "put" "Exchange.put" (defArgs s_Exchange__put) (defBody s_Exchange__put) (defScope s_Exchange__put) dvs [] f fd) (T_Row : CT K CR RFN) (T_Exchange : CT K CE EFN) (m_put_one : KnPut1 P w K mg base CR CE) : FnOk P w K mg base (L2.CX P w) 4 f fd ["self", "row", "within"] (spPut K CR CE) := by
  refine F.ok sc_Exchange__put (fun vs H Q E h => ?_) (fun cdv A outer s H vs Q E hr h => ?_)
  · obtain ⟨x, rl, ml, a, tl, pl, rs, r, k, rfl, _⟩ := h
    rfl
  · obtain ⟨x, rl, ml, a, tl, pl, rs, r, k, rfl, hE, hR, hA, n1, n2, n3, hl, hn, hm, qy, qn⟩ := h
    refine ⟨_, (pss_one (ps_if (pt_cmpR (op_inDk (huT hr)) (pe_fld (pv 1) rfl) (pe_fld (pv 0) rfl) rfl) (pss_one (ps_expr pe_never)) (pss_one (ps_if (pt_cmpR op_eq (pe_fld (pv 1) rfl) pe_str (nomark _)) (pss_one ps_neverT) (pss_one (ps_expr (pkm m_put_one (pv 0) T_Exchange.cl hr (by decide) passT (pa_cons (pv 1) pa_nil)))))))), ?_⟩
    obtain ⟨dx, e1, e2, e3, e4⟩ := id hE
    obtain ⟨dr, h1, h2, h3⟩ := id hA
    refine ⟨_, rfl, a, CR, dr, _, _, rfl, h1, T_Row.cl, T_Row.n _ m_word, rf_word _ _ _ _ _ _, _, rfl, x, CE, dx, _, _, rfl, e1, T_Exchange.cl, T_Exchange.n _ m_macros, xf_macros _ _, ?_⟩
    refine ⟨ml, _, rfl, DGet.k (k := Sum.inr (mk r.word)) e2, _, rfl, iteF ?_⟩
    refine ⟨_, rfl, a, CR, dr, _, _, rfl, h1, T_Row.cl, T_Row.n _ m_word, rf_word _ _ _ _ _ _, rfl, _, rfl, ?_⟩
    rw [decide_eq_false (fun z => hm (V.str.inj z))]
    refine iteF ⟨_, rfl, x, dx, _, rfl, e1, xf_no _ _ _ (by decide +kernel), _, rfl, x, rl, ml, a, tl, pl, rs, r, rfl, hE, hR, hA, n1, n2, n3, hl, hn, fun c H' b g => qy c H' b g, qn⟩
abbrev KnPut (P : Program) (w : World) (K : PySem.W.Frag) (mg : Str → Option Value) (base : Heap) (CR CE : Addr) : Prop := KnM P w K mg base (L2.CX P w) 4 CE "put" ["self", "row", "within"] [] (spPut K CR CE)
theorem pe_mk0 {X : Cx} {k j : Nat} {C : Addr} {x : Str} {sp : Sp} {p pos : Pos} (c : C8.Mak X.prog X.w X.K X.mg X.base k x C sp []) (hr : Room j X.A) (hk : k + 1 ≤ j) (hg : Gl X x) (hdb : (x == ("__debug__" : Str)) = false := by decide) : L2.PE X (.Call (.Name x p) [] [] pos) (tMake C sp [] E0 tNil) := by
  obtain ⟨f, fd, ps, ds, M, F, hm, b, d⟩ := c.ex
  exact pe_make0 M F (hr.mono hk) hg hm b d pass0 hdb
/-! exchanged_rows -/
def spXr (K : PySem.W.Frag) (CR : Addr) : Sp := fun vs H Q E => ∃ (l : Addr) (ts : List Tx), vs = [.ref l] ∧ H l = some (.lst (vTx ts)) ∧ (∀ t ∈ ts, ClT t ∧ t.length ≤ 50000) ∧ NoMac ts ∧ ts.length ≤ 60000 ∧
  (∀ rs, exG 0 [] ts = .ok rs → ∀ rl H', Same H H' → Rows CR H' rl rs → Q (.ref rl) H') ∧ (∀ n y, exG 0 [] ts = .bad n y → ∀ H', Same H H' → Rfs K E H' n y)
theorem label_ok {t : Tx} (h : ClT t) (hl : t.length ≤ 50000) (n : Nat) : ∀ l, (rowT n t).label = some l → ClT l ∧ l.length ≤ 50000 := fun l e => by
  have e : (if 58 ∈ t then some (lowd (stripT (aheadT 58 t))) else none) = some l := e
  split at e
  · obtain rfl := Option.some.inj e
    refine ⟨lowd_cl ((h.sub (ahead_sub 58 t)).sub (stripT_sub _)), ?_⟩
    rw [lowd_len]
    have := stripT_len (aheadT 58 t)
    have := ahead_len 58 t
    omega
  · cases e
abbrev N_exchanged_rows : List Str := ["texts", "exchange", "at", "row"]
theorem sc_exchanged_rows : FnScope ["texts", "exchange", "at", "row"] ["texts"] (defScope s_exchanged_rows) := ⟨rfl, rfl, rfl, by decide +kernel, rfl, by decide +kernel, by decide +kernel⟩
theorem ok_xrows (F : FnP K "exchanged_rows" s_exchanged_rows dvs f fd) (T_Row : CT K CR RFN) (T_Exchange : CT K CE EFN) (c_Exchange : KnEx P w K mg base CE) (c_Row : KnRow P w K mg base CR) (k_check_label : KnChkL P w K mg base CR) (m_put : KnPut P w K mg base CR CE) (g_len : mg "len" = none) : FnOk P w K mg base (L2.CX P w) 5 f fd ["texts"] (spXr K CR) := by
  refine F.ok sc_exchanged_rows (fun vs H Q E h => ?_) (fun cdv A outer s H vs Q E hr h => ?_)
  · obtain ⟨l, ts, rfl, _⟩ := h
    rfl
  · obtain ⟨l, ts, rfl, hL, hts, hm, hlen, qy, qn⟩ := h
    refine ⟨_, (pss_cons (ps_set (i := 1) sc_exchanged_rows.nd rfl (Or.inl rfl) (pe_mk0 c_Exchange hr (by decide) rfl))
      (pss_cons (ps_set (i := 2) sc_exchanged_rows.nd rfl (Or.inl rfl) pe_int)
      (pss_cons (ps_while (passes_of rfl) (pt_cmpR op_lt (pv 2) (pe_callB call_len rfl g_len boot_len (pa_cons (pv 0) pa_nil)) (nomark _)) (pss_cons (ps_set (i := 3) sc_exchanged_rows.nd rfl (Or.inl rfl) (C8.pe_mk c_Row hr (by decide) rfl (pa_cons (pv 2) (pa_cons (pe_ix ix_list (pv 0) (pv 2) (fun _ _ => rfl)) pa_nil))))
      (pss_cons (ps_expr (pk k_check_label hr (by decide) rfl passT (pa_cons (pv 3) pa_nil)))
      (pss_cons (ps_aug (i := 2) sc_exchanged_rows.nd rfl (Or.inl rfl) pe_int ip_add)
      (pss_one (ps_if (pt_cmpR op_eq (pe_fld (pv 3) rfl) pe_str (nomark _)) (pss_one (ps_aug (i := 2) sc_exchanged_rows.nd rfl (Or.inl rfl) pe_never ip_add)) (pss_one (ps_expr (pkm m_put (pv 1) T_Exchange.cl hr (by decide) passT (pa_cons (pv 3) (pa_cons pe_int pa_nil)))))))))))
      (pss_one (ps_ret (pe_fld (pv 1) rfl)))))), ?_⟩
    refine sqT ?_
    refine fun x dx hx hdx hne => ⟨H, x, dx, rfl, hx, hdx, hne, rfl, fun rl ml H1 s1 hrl hE hr0 => ⟨rfl, ?_⟩⟩
    refine sqT (show tSeq _ _ _ _ _ from ?_)
    refine while_n (fun m σ G => ∃ (i : Nat) (rs : List Rw) (v3 : Option V), m = ts.length - i ∧ i ≤ ts.length ∧ σ = [some (.ref l), some (.ref x), some (.int (i : Nat)), v3] ∧ Same H G ∧ EAt CE G x rl ml ∧ Rows CR G rl rs ∧ rs.length = i ∧ i ≤ 300 ∧ exG 0 [] ts = exG i rs (ts.drop i)) ts.length
      ⟨0, [], none, rfl, Nat.zero_le _, rfl, s1, hE, ⟨[], hr0, rfl, fun i x r hx => by cases hx⟩, rfl, by omega, rfl⟩ ?_ (fun σ G R R' m h => ?_)
    · rintro m σ G ⟨i, rs, v3, rfl, hi, rfl, sG, hE, hR, hrs, hi3, hex⟩
      have hLG := sG _ _ hL
      have lv : (vTx ts).length = ts.length := by unfold vTx; rw [List.length_map]
      refine ⟨_, rfl, _, rfl, _, _, rfl, .inl ⟨_, SqL.of hLG, rfl⟩, _, _, rfl, rfl, _, rfl, ?_⟩
      rw [lv]
      obtain ⟨dE, e1, e2, e3, e4⟩ := id hE
      by_cases c : i < ts.length
      · rw [decide_eq_true (show (i : Int) < (ts.length : Int) by omega)]
        obtain ⟨t, ht⟩ : ∃ t, ts[i]? = some t := ⟨ts[i], List.getElem?_eq_getElem c⟩
        have htm := List.mem_of_getElem? ht
        obtain ⟨t1, t2⟩ := hts t htm
        have hdrop : ts.drop i = t :: ts.drop (i + 1) := by
          rw [List.drop_eq_getElem_cons c]
          rw [List.getElem?_eq_getElem c] at ht
          rw [Option.some.inj ht]
        rw [hdrop] at hex
        have hat : atI (vTx ts) ((i : Nat) : Int) = some (V.str (mk t)) := atI_nat (by unfold vTx; rw [List.getElem?_map, ht]; rfl)
        refine iteT (sqT ?_)
        refine ⟨_, rfl, _, rfl, _, rfl, l, _, _, _, rfl, rfl, SqL.of hLG, hat, fun a da ha hda hne2 => ⟨G, a, da, i, t, rfl, ha, hda, hne2, rfl, t1, t2, fun tl pl G1 s1' htl hpl hA => ⟨rfl, ?_⟩⟩⟩
        obtain ⟨xs0, hrl0, _⟩ := id hR
        have n1 : a ≠ rl := ne_of_free hrl0 ha
        have n2 : tl ≠ rl := ne_of_free hrl0 htl
        have n3 : pl ≠ rl := ne_of_free hrl0 hpl
        dsimp only [gName, List.set]
        refine sqT ?_
        refine ⟨_, rfl, a, rowT i t, rfl, hA.at_, label_ok t1 t2 i, by show i ≤ 100000; omega, fun hgood G2 s2 => ?_, fun lab hlab hbad G2 s2 => ?_⟩
        rotate_left
        · refine qn i "form" ?_ _ (Same.trans sG (Same.trans s1' s2))
          rw [hex]
          unfold exG
          rw [hlab]
          dsimp only
          rw [if_pos hbad]
        have hstep : exG i rs (t :: ts.drop (i + 1)) = if rs.length = 300 then .bad i "long" else exG (i + 1) (rs ++ [rowT i t]) (ts.drop (i + 1)) := by
          rw [exG]
          cases hlab : (rowT i t).label with
          | none => rfl
          | some lab =>
            dsimp only
            rw [if_neg (by rw [hgood lab hlab]; simp)]
        rw [hstep] at hex
        refine sqT ?_
        refine ⟨_, rfl, _, _, rfl, rfl, ?_⟩
        obtain ⟨dr, h1, h2, h3⟩ := hA.same s2
        have s12 := Same.trans s1' s2
        refine ⟨_, rfl, a, CR, dr, _, _, rfl, h1, T_Row.cl, T_Row.n _ m_word, rf_word _ _ _ _ _ _, rfl, _, rfl, ?_⟩
        rw [decide_eq_false (fun z => hm t htm i (V.str.inj z))]
        refine iteF ⟨_, rfl, x, dE, _, rfl, s12 _ _ e1, xf_no _ _ _ (by decide +kernel), _, rfl, x, rl, ml, a, tl, pl, rs, rowT i t, 0, rfl, ⟨dE, s12 _ _ e1, s12 _ _ e2, e3, e4⟩, hR.same s12, hA.same s2, n1, n2, n3, by omega, by show i ≤ 100000; omega, hm t htm i, fun cl G3 b3 hR3 => ?_, fun cl G3 s3 => ?_⟩
        · rw [if_neg cl] at hex
          have sH2 := Same.trans sG s12
          have sH3 : Same H G3 := fun b o hb => b3 b o (fun z => by rw [z, hrl] at hb; cases hb) (sH2 b o hb)
          refine ⟨ts.length - (i + 1), by omega, i + 1, rs ++ [rowT i t], some (.ref a), rfl, by omega, ?_, sH3, ⟨dE, b3 _ _ e3 (s12 _ _ e1), b3 _ _ e4 (s12 _ _ e2), e3, e4⟩, hR3, by rw [List.length_append, hrs]; rfl, by omega, hex⟩
          have : ((i : Int) + 1) = ((i + 1 : Nat) : Int) := by omega
          rw [← this]
          rfl
        · rw [if_pos cl] at hex
          exact qn i "long" hex _ (Same.trans sG (Same.trans s12 s3))
      · rw [decide_eq_false (show ¬ (i : Int) < (ts.length : Int) by omega)]
        have hd : ts.drop i = [] := List.drop_of_length_le (by omega)
        rw [hd] at hex
        exact iteF ⟨_, rfl, x, CE, dE, _, _, rfl, e1, T_Exchange.cl, T_Exchange.n _ m_rows, xf_rows _ _, qy rs hex rl _ sG hR⟩
    · obtain ⟨v, ev, u, eu, y, n, ey, el, i, j, ei, ej, k, ek, r⟩ := h
      exact ⟨v, ev, u, eu, y, n, ey, el, i, j, ei, ej, k, ek, m _ _ r⟩
abbrev KnXr (P : Program) (w : World) (K : PySem.W.Frag) (mg : Str → Option Value) (base : Heap) (CR : Addr) : Prop := Kn P w K mg base (L2.CX P w) 5 "exchanged_rows" ["texts"] [] (spXr K CR)
end
end Bm
set_option maxHeartbeats 1000000
namespace Bm
open PySem PySem.Spec PyProof.Rows L2
abbrev Bil (i : Int) : Prop := -1000000000 ≤ i ∧ i ≤ 1000000000
theorem sg_sign : ∀ c, c < 127 → decide (c ∈ ("+-*&|^<>" : Str).cps.toList) = isSg c := by decide +kernel
theorem shift_sign : ∀ c, c < 127 → decide (c ∈ ("<>" : Str).cps.toList) = decide (c = 60 ∨ c = 62) := by decide +kernel
theorem isSg_lt {c : Nat} (h : isSg c = true) : c < 127 := by
  unfold isSg at h
  simp only [Bool.or_eq_true, beq_iff_eq] at h
  omega
theorem pev_sg {H : Hp} {c d : Nat} (h : c ≠ d) : PEv (tPv (.str (mk [d]))) (.str (mk [c])) H none := pev_str fun z => h (List.cons.inj (mk_inj z)).1
/-- names with what they mean -/
def NmAt (H : Hp) (a : Addr) (nm : Tx → Option Int) : Prop := ∃ kvs : List (Key × V), H a = some (.dK kvs) ∧ kvs.length ≤ 50000 ∧ ∀ p : Tx, valV kvs (.inr (mk p)) = (nm p).map V.int
theorem NmAt.same {H H' : Hp} {a : Addr} {nm : Tx → Option Int} (h : NmAt H a nm) (e : Same H H') : NmAt H' a nm := by
  obtain ⟨kvs, h1, h2⟩ := h
  exact ⟨kvs, e _ _ h1, h2⟩
section
variable {P : Program} {w : World} {K : PySem.W.Frag} {mg : Str → Option Value} {base : Heap} {f CR CE : Addr} {fd : FuncData} {dvs : List V}
def spSigned : Sp := fun vs H Q _ => ∃ (t o : Int) (c : Nat), vs = [.int t, .str (mk [c]), .int o] ∧ isSg c = true ∧ Bil t ∧ Bil o ∧ ((c = 60 ∨ c = 62) → 0 ≤ o ∧ o ≤ 16) ∧ ∀ H', Same H H' → Q (.int (sumS c t o)) H'
abbrev N_signed_sum : List Str := ["total", "sign", "other"]
theorem sc_signed_sum : FnScope ["total", "sign", "other"] ["total", "sign", "other"] (defScope s_signed_sum) := ⟨rfl, rfl, rfl, by decide +kernel, rfl, by decide +kernel, by decide +kernel⟩
theorem ok_signed_sum (F : FnP K "signed_sum" s_signed_sum dvs f fd) : FnOk P w K mg base CX0 1 f fd ["total", "sign", "other"] spSigned := by
  refine F.ok sc_signed_sum (fun vs H Q E h => ?_) (fun cdv A outer s H vs Q E hr h => ?_)
  · obtain ⟨t, o, c, rfl, _⟩ := h
    rfl
  · obtain ⟨t, o, c, rfl, hs, ht, ho, hsh, q⟩ := h
    refine ⟨_, PSs.nox (pss_one (ps_match (pv 1) (pcs_cons sc_signed_sum.nd (pp_val pe_str) (pss_one (ps_ret (pe_op op_add (pv 0) (pv 2))))
      (pcs_cons sc_signed_sum.nd (pp_val pe_str) (pss_one (ps_ret (pe_op op_sub (pv 0) (pv 2))))
      (pcs_cons sc_signed_sum.nd (pp_val pe_str) (pss_one (ps_ret (pe_op op_mul (pv 0) (pv 2))))
      (pcs_cons sc_signed_sum.nd (pp_val pe_str) (pss_one (ps_ret (pe_op op_and (pv 0) (pv 2))))
      (pcs_cons sc_signed_sum.nd (pp_val pe_str) (pss_one (ps_ret (pe_op op_or (pv 0) (pv 2))))
      (pcs_cons sc_signed_sum.nd (pp_val pe_str) (pss_one (ps_ret (pe_op op_xor (pv 0) (pv 2))))
      (pcs_cons sc_signed_sum.nd (pp_val pe_str) (pss_one (ps_ret (pe_op op_shl (pv 0) (pv 2))))
      (pcs_cons sc_signed_sum.nd pp_wild (pss_one (ps_ret (pe_op op_shr (pv 0) (pv 2))))
      pcs_nil)))))))))), ?_⟩
    have q0 := q H (Same.refl _)
    unfold sumS at q0
    refine ⟨_, rfl, ?_⟩
    by_cases c43 : c = 43
    · subst c43
      exact cs_yes (pev_str_yes rfl) ⟨_, rfl, _, rfl, _, _, rfl, rfl, q0⟩
    rw [if_neg c43] at q0
    refine cs_no (pev_sg c43) ?_
    by_cases c45 : c = 45
    · subst c45
      exact cs_yes (pev_str_yes rfl) ⟨_, rfl, _, rfl, _, _, rfl, rfl, q0⟩
    rw [if_neg c45] at q0
    refine cs_no (pev_sg c45) ?_
    by_cases c42 : c = 42
    · subst c42
      exact cs_yes (pev_str_yes rfl) ⟨_, rfl, _, rfl, _, _, rfl, rfl, .inl ⟨by omega, by omega⟩, q0⟩
    rw [if_neg c42] at q0
    refine cs_no (pev_sg c42) ?_
    by_cases c38 : c = 38
    · subst c38
      exact cs_yes (pev_str_yes rfl) ⟨_, rfl, _, rfl, _, _, rfl, rfl, q0⟩
    rw [if_neg c38] at q0
    refine cs_no (pev_sg c38) ?_
    by_cases c124 : c = 124
    · subst c124
      exact cs_yes (pev_str_yes rfl) ⟨_, rfl, _, rfl, _, _, rfl, rfl, q0⟩
    rw [if_neg c124] at q0
    refine cs_no (pev_sg c124) ?_
    by_cases c94 : c = 94
    · subst c94
      exact cs_yes (pev_str_yes rfl) ⟨_, rfl, _, rfl, _, _, rfl, rfl, q0⟩
    rw [if_neg c94] at q0
    refine cs_no (pev_sg c94) ?_
    by_cases c60 : c = 60
    · subst c60
      exact cs_yes (pev_str_yes rfl) ⟨_, rfl, _, rfl, _, _, rfl, rfl, ⟨(hsh (.inl rfl)).1, by have := (hsh (.inl rfl)).2; omega, by omega⟩, q0⟩
    rw [if_neg c60] at q0
    refine cs_no (pev_sg c60) ?_
    have c62 : c = 62 := by
      unfold isSg at hs
      simp only [Bool.or_eq_true, beq_iff_eq] at hs
      omega
    subst c62
    exact cs_yes pev_wild ⟨_, rfl, _, rfl, _, _, rfl, rfl, (hsh (.inr rfl)).1, q0⟩
abbrev KnSigned (P : Program) (w : World) (K : PySem.W.Frag) (mg : Str → Option Value) (base : Heap) : Prop := Kn P w K mg base CX0 1 "signed_sum" ["total", "sign", "other"] [] spSigned
def Tells (K : PySem.W.Frag) (H : Hp) (Q : VK) (E : XK) (n : Nat) (r : Rs Int) : Prop := match r with
  | .ok i => ∀ H', Same H H' → Q (.int i) H'
  | .bad y => ∀ H', Same H H' → Rfs K E H' n y
def spOn (K : PySem.W.Frag) : Sp := fun vs H Q E => ∃ (n : Nat) (t o : Int) (c : Nat), vs = [.int (n : Nat), .int t, .str (mk [c]), .int o] ∧ n ≤ 100000 ∧ isSg c = true ∧ Bil t ∧ Bil o ∧ Tells K H Q E n (onT t c o)
abbrev N_reckoned_on : List Str := ["number", "total", "sign", "other", "came"]
theorem sc_reckoned_on : FnScope ["number", "total", "sign", "other", "came"] ["number", "total", "sign", "other"] (defScope s_reckoned_on) := ⟨rfl, rfl, rfl, by decide +kernel, rfl, by decide +kernel, by decide +kernel⟩
theorem ok_on (F : FnP K "reckoned_on" s_reckoned_on dvs f fd) (k_signed_sum : KnSigned P w K mg base) (b_BadRow : BadRo P w K mg base) (g_OFTEN_MOST : ∃ t, mg "OFTEN_MOST" = some (.int 16 t)) (g_TOTAL_MOST : ∃ t, mg "TOTAL_MOST" = some (.int 1000000000 t)) : FnOk P w K mg base (L2.CX P w) 3 f fd ["number", "total", "sign", "other"] (spOn K) := by
  obtain ⟨_, g_OFTEN_MOST⟩ := g_OFTEN_MOST
  obtain ⟨_, g_TOTAL_MOST⟩ := g_TOTAL_MOST
  refine F.ok sc_reckoned_on (fun vs H Q E h => ?_) (fun cdv A outer s H vs Q E hr h => ?_)
  · obtain ⟨n, t, o, c, rfl, _⟩ := h
    rfl
  · obtain ⟨n, t, o, c, rfl, hn, hs, ht, ho, q⟩ := h
    refine ⟨_, (pss_cons (ps_if (PW.pt (pw_and (pt_cmpR op_in_sign (pv 2) pe_str rfl) (pw_and1 (pt_not (pt_chain op_le op_le pe_int (pv 3) (pe_glob (v := .int 16) rfl g_OFTEN_MOST ⟨_, rfl⟩)))))) (pss_one (ps_raise rfl (takes_of rfl rfl rfl rfl) (pmk_bad b_BadRow hr (by decide) rfl (pa_cons (pv 0) (pa_cons pe_str pa_nil))))) pss_nil)
      (pss_cons (ps_set (i := 4) sc_reckoned_on.nd rfl (Or.inl rfl) (pk k_signed_sum hr (by decide) rfl pass0 (pa_cons (pv 1) (pa_cons (pv 2) (pa_cons (pv 3) pa_nil)))))
      (pss_cons (ps_if (pt_not (pt_chain op_le op_le (pe_un un_neg (pe_glob (v := .int 1000000000) rfl g_TOTAL_MOST ⟨_, rfl⟩)) (pv 4) (pe_glob (v := .int 1000000000) rfl g_TOTAL_MOST ⟨_, rfl⟩))) (pss_one (ps_raise rfl (takes_of rfl rfl rfl rfl) (pmk_bad b_BadRow hr (by decide) rfl (pa_cons (pv 0) (pa_cons pe_str pa_nil))))) pss_nil)
      (pss_one (ps_ret (pv 4)))))), ?_⟩
    have c127 := isSg_lt hs
    have bad : ∀ G : Hp, Same H G → onT t c o = .bad "number" → ∀ d, G d = none → E (.ref (He.ga K "BadRow")) (some d) (upd G d (.xd (fsRow [.int (n : Nat), .str "number"]))) := fun G s e d hd => by
      rw [e] at q
      exact q G s d _ (Same.add hd) hd upd_same
    refine sqT ?_
    refine ifJ (fun σ' G => σ' = [some (.int (n : Nat)), some (.int t), some (.str (mk [c])), some (.int o), none] ∧ G = H ∧ ¬ ((c = 60 ∨ c = 62) ∧ ¬ (0 ≤ o ∧ o ≤ 16))) ?_ (fun key => ?_)
    · rintro σ' G ⟨rfl, rfl, hno⟩
      have hT : onT t c o = if -1000000000 ≤ sumS c t o ∧ sumS c t o ≤ 1000000000 then .ok (sumS c t o) else .bad "number" := if_neg hno
      refine sqT ?_
      refine ⟨_, rfl, _, rfl, _, rfl, t, o, c, rfl, hs, ht, ho, fun h => Decidable.byContradiction fun k => hno ⟨h, k⟩, fun G1 s1 => ?_⟩
      dsimp only [gName, List.set]
      refine sqT ?_
      refine ⟨_, rfl, _, rfl, _, _, rfl, rfl, _, rfl, ?_⟩
      by_cases c1 : -1000000000 ≤ sumS c t o
      · refine itT (decide_eq_true c1) ?_
        refine ⟨_, _, rfl, rfl, _, rfl, ?_⟩
        by_cases c2 : sumS c t o ≤ 1000000000
        · rw [if_pos ⟨c1, c2⟩] at hT
          rw [hT] at q
          rw [decide_eq_true c2]
          exact itF rfl ⟨_, rfl, q _ s1⟩
        · rw [if_neg (fun h => c2 h.2)] at hT
          rw [decide_eq_false c2]
          exact itT rfl ⟨_, rfl, by simp, ⟨_, _, rfl, small_lg hn, by decide +kernel⟩, bad _ s1 hT⟩
      · rw [if_neg (fun h => c1 h.1)] at hT
        refine itF (decide_eq_false c1) ⟨_, rfl, itT rfl ⟨_, rfl, by simp, ⟨_, _, rfl, small_lg hn, by decide +kernel⟩, bad _ s1 hT⟩⟩
    · have raise_ : (c = 60 ∨ c = 62) → ¬ (0 ≤ o ∧ o ≤ 16) → onT t c o = .bad "number" := fun h k => if_pos ⟨h, k⟩
      refine ⟨_, rfl, c, _, rfl, rfl, _, rfl, ?_⟩
      rw [shift_sign c c127]
      by_cases c1 : c = 60 ∨ c = 62
      · rw [decide_eq_true c1]
        refine iteT ⟨_, rfl, _, _, rfl, rfl, _, rfl, ?_⟩
        by_cases c2 : 0 ≤ o
        · rw [decide_eq_true c2]
          refine iteT ⟨_, _, rfl, rfl, _, rfl, ?_⟩
          by_cases c3 : o ≤ 16
          · rw [decide_eq_true c3]
            exact itF rfl (key _ _ ⟨rfl, rfl, fun h => h.2 ⟨c2, c3⟩⟩)
          · rw [decide_eq_false c3]
            exact itT rfl ⟨_, rfl, by simp, ⟨_, _, rfl, small_lg hn, by decide +kernel⟩, bad _ (Same.refl _) (raise_ c1 fun h => c3 h.2)⟩
        · rw [decide_eq_false c2]
          exact iteF ⟨_, rfl, itT rfl ⟨_, rfl, by simp, ⟨_, _, rfl, small_lg hn, by decide +kernel⟩, bad _ (Same.refl _) (raise_ c1 fun h => c2 h.1)⟩⟩
      · rw [decide_eq_false c1]
        exact iteF (itF rfl (key _ _ ⟨rfl, rfl, fun h => c1 h.1⟩))
abbrev KnOn (P : Program) (w : World) (K : PySem.W.Frag) (mg : Str → Option Value) (base : Heap) : Prop := Kn P w K mg base (L2.CX P w) 3 "reckoned_on" ["number", "total", "sign", "other"] [] (spOn K)
def spWorth (K : PySem.W.Frag) : Sp := fun vs H Q E => ∃ (n : Nat) (p : Tx) (a : Addr) (nm : Tx → Option Int), vs = [.int (n : Nat), .str (mk p), .ref a] ∧ n ≤ 100000 ∧ ClT p ∧ p.length ≤ 50000 ∧ NmAt H a nm ∧ Tells K H Q E n (worthT nm p)
abbrev N_worth : List Str := ["number", "piece", "names", "told"]
theorem sc_worth : FnScope ["number", "piece", "names", "told"] ["number", "piece", "names"] (defScope s_worth) := ⟨rfl, rfl, rfl, by decide +kernel, rfl, by decide +kernel, by decide +kernel⟩
theorem ok_worth (F : FnP K "worth" s_worth dvs f fd) (k_is_name : KnIsNm P w K mg base) (k_number_of : KnNumOf P w K mg base) (b_BadRow : BadRo P w K mg base) : FnOk P w K mg base (L2.CX P w) 3 f fd ["number", "piece", "names"] (spWorth K) := by
  refine F.ok sc_worth (fun vs H Q E h => ?_) (fun cdv A outer s H vs Q E hr h => ?_)
  · obtain ⟨n, p, a, nm, rfl, _⟩ := h
    rfl
  · obtain ⟨n, p, a, nm, rfl, hn, hc, hl, hN, q⟩ := h
    refine ⟨_, (pss_cons (ps_if (pt_cmpR (op_inDk (huT hr)) (pv 1) (pv 2) rfl) (pss_one (ps_ret (pe_dget (huT hr) (pv 2) (pv 1) (fun _ _ => rfl)))) pss_nil)
      (pss_cons (ps_if (pt_val (pk k_is_name hr (by decide) rfl pass0 (pa_cons (pv 1) pa_nil))) (pss_one (ps_raise rfl (takes_of rfl rfl rfl rfl) (pmk_bad b_BadRow hr (by decide) rfl (pa_cons (pv 0) (pa_cons pe_str pa_nil))))) pss_nil)
      (pss_cons (ps_set (i := 3) sc_worth.nd rfl (Or.inl rfl) (pk k_number_of hr (by decide) rfl pass0 (pa_cons (pv 1) pa_nil)))
      (pss_cons (ps_if (pt_cmpR op_isN (pv 3) pe_non (nomark _)) (pss_one (ps_raise rfl (takes_of rfl rfl rfl rfl) (pmk_bad b_BadRow hr (by decide) rfl (pa_cons (pv 0) (pa_cons pe_str pa_nil))))) pss_nil)
      (pss_one (ps_ret (pv 3))))))), ?_⟩
    obtain ⟨kvs, k1, _, k2⟩ := id hN
    refine sqT ?_
    have kp := k2 p
    cases hp : nm p with
    | some i =>
      rw [hp] at kp
      unfold worthT at q
      rw [hp] at q
      have dg : DGet H a (.str (mk p)) (some (.int i)) := by
        have := DGet.k (k := Sum.inr (mk p)) k1
        rw [kp] at this
        exact this
      refine ⟨_, rfl, _, rfl, a, _, rfl, dg, _, rfl, iteT ?_⟩
      exact ⟨_, rfl, _, rfl, a, _, rfl, dg, q _ (Same.refl _)⟩
    | none =>
      rw [hp] at kp
      unfold worthT at q
      rw [hp] at q
      dsimp only at q
      have dg : DGet H a (.str (mk p)) none := by
        have := DGet.k (k := Sum.inr (mk p)) k1
        rw [kp] at this
        exact this
      refine ⟨_, rfl, _, rfl, a, _, rfl, dg, _, rfl, iteF ?_⟩
      refine sqT ?_
      refine ⟨_, rfl, p, rfl, hc, hl, fun G1 s1 => ⟨_, rfl, ?_⟩⟩
      cases hnm : isNm p with
      | true =>
        rw [if_pos hnm] at q
        exact iteT ⟨_, rfl, by simp, ⟨_, _, rfl, small_lg hn, by decide +kernel⟩, fun d hd => q _ s1 d _ (Same.add hd) hd upd_same⟩
      | false =>
        rw [if_neg (by rw [hnm]; exact Bool.false_ne_true)] at q
        refine iteF ?_
        refine sqT ?_
        refine ⟨_, rfl, p, rfl, hc, hl, fun G2 s2 => ?_⟩
        dsimp only [gName, List.set]
        have s12 := Same.trans s1 s2
        refine sqT ?_
        refine ⟨_, rfl, rfl, _, rfl, ?_⟩
        cases hno : numT p with
        | none =>
          rw [hno] at q
          exact iteT ⟨_, rfl, by simp, ⟨_, _, rfl, small_lg hn, by decide +kernel⟩, fun d hd => q _ s12 d _ (Same.add hd) hd upd_same⟩
        | some k =>
          rw [hno] at q
          exact iteF ⟨_, rfl, q _ s12⟩
abbrev KnWorth (P : Program) (w : World) (K : PySem.W.Frag) (mg : Str → Option Value) (base : Heap) : Prop := Kn P w K mg base (L2.CX P w) 3 "worth" ["number", "piece", "names"] [] (spWorth K)
/-! pieces -/
def PcsAt (K : PySem.W.Frag) (H : Hp) (vs : List V) (ps : List (Nat × Tx)) : Prop := vs.length = ps.length ∧ ∀ (i : Nat) (v : V) (p : Nat × Tx), vs[i]? = some v → ps[i]? = some p → ∃ T, v = .ref T ∧ SqT K H T [.str (mk [p.1]), .str (mk p.2)]
theorem tup_upd {H : Hp} {D a : Addr} {vs : List V} {o : HO} {xs : List V} (hD : H D = some (.lst vs)) (h : SqT K H a xs) : SqT K (upd H D o) a xs := by
  rcases h with (h | ⟨u, h⟩) | h
  · exact .inl (.inl (by rw [upd_ne (fun z => by rw [z, hD] at h; cases h)]; exact h))
  · exact .inl (.inr ⟨u, by rw [upd_ne (fun z => by rw [z, hD] at h; cases h)]; exact h⟩)
  · exact .inr h
theorem PcsAt.same {H H' : Hp} {vs : List V} {ps : List (Nat × Tx)} (h : PcsAt K H vs ps) (e : Same H H') : PcsAt K H' vs ps := ⟨h.1, fun i v p hv hp => by
  obtain ⟨T, t1, t2⟩ := h.2 i v p hv hp
  exact ⟨T, t1, Same.tup e t2⟩⟩
theorem PcsAt.push {H : Hp} {D T : Addr} {vs us : List V} {ps : List (Nat × Tx)} {p : Nat × Tx} {o : HO} (h : PcsAt K H vs ps) (hD : H D = some (.lst us)) (hT : SqT K H T [.str (mk [p.1]), .str (mk p.2)]) : PcsAt K (upd H D o) (vs ++ [.ref T]) (ps ++ [p]) := by
  refine ⟨by rw [List.length_append, List.length_append, h.1]; rfl, fun i v q hv hq => ?_⟩
  by_cases c : i < vs.length
  · rw [List.getElem?_append_left c] at hv
    rw [List.getElem?_append_left (by have := h.1; omega)] at hq
    obtain ⟨T2, t1, t2⟩ := h.2 i v q hv hq
    exact ⟨T2, t1, tup_upd hD t2⟩
  · rw [List.getElem?_append_right (by omega)] at hv
    rw [List.getElem?_append_right (by have := h.1; omega)] at hq
    have e : i - vs.length = 0 := by
      cases d : i - vs.length with
      | zero => rfl
      | succ n => rw [d] at hv; cases hv
    rw [e] at hv
    rw [show i - ps.length = 0 by have := h.1; omega] at hq
    obtain rfl := Option.some.inj hv
    obtain rfl := Option.some.inj hq
    exact ⟨T, rfl, tup_upd hD hT⟩
def spPieces (K : PySem.W.Frag) : Sp := fun vs H Q _ => ∃ l : Tx, vs = [.str (mk l)] ∧ ClT l ∧ l.length ≤ 50000 ∧ ∀ D vs H', Same H H' → H' D = some (.lst vs) → PcsAt K H' vs (piecesT l) → Q (.ref D) H'
abbrev N_pieces : List Str := ["text", "found", "sign", "begin", "at"]
theorem sc_pieces : FnScope ["text", "found", "sign", "begin", "at"] ["text"] (defScope s_pieces) := ⟨rfl, rfl, rfl, by decide +kernel, rfl, by decide +kernel, by decide +kernel⟩
theorem ok_pieces (F : FnP K "pieces" s_pieces dvs f fd) (g_SIGNS : ∃ t, mg "SIGNS" = some (.str "+-*&|^<>" t)) (g_len : mg "len" = none) (g_range : mg "range" = none) : FnOk P w K mg base CX0 1 f fd ["text"] (spPieces K) := by
  obtain ⟨_, g_SIGNS⟩ := g_SIGNS
  refine F.ok sc_pieces (fun vs H Q E h => ?_) (fun cdv A outer s H vs Q E hr h => ?_)
  · obtain ⟨l, rfl, _⟩ := h
    rfl
  · obtain ⟨l, rfl, hc, hl, q⟩ := h
    refine ⟨_, PSs.nox (pss_cons (ps_set (i := 1) sc_pieces.nd rfl (Or.inl rfl) (pe_lst pa_nil))
      (pss_cons (ps_asg (pe_ifExp (pt_val (pe_bm PySem.F.plainAttrs_str PySem.F.slot_str_startswith PySem.F.type_str_startswith mt_startswith (pv 0) (pa_cons pe_str pa_nil))) (pe_tup (pa_cons pe_str (pa_cons pe_int pa_nil))) (pe_tup (pa_cons pe_str (pa_cons pe_int pa_nil)))) (pg_tup rfl (pgs_cons (pg_name (i := 2) sc_pieces.nd rfl (Or.inl rfl)) (pgs_cons (pg_name (i := 3) sc_pieces.nd rfl (Or.inl rfl)) pgs_nil))))
      (pss_cons (ps_for PassesOwn.never rfl (pi_range2 rfl g_range (pa_cons (pv 3) (pa_cons (pe_callB call_len rfl g_len boot_len (pa_cons (pv 0) pa_nil)) pa_nil))) (pg_name (i := 4) sc_pieces.nd rfl (Or.inl rfl))
      (pss_one (ps_if (pt_cmpR op_in_sign (pe_ix ix_str (pv 0) (pv 4) (fun _ _ => rfl)) (pe_glob (v := .str "+-*&|^<>") rfl g_SIGNS ⟨_, rfl⟩) rfl) (pss_cons (ps_expr (pe_bm PySem.F.plainAttrs_list PySem.F.slot_list_append PySem.F.type_list_append mt_append (pv 1) (pa_cons (pe_tup (pa_cons (pv 2) (pa_cons (pe_bm0 PySem.F.plainAttrs_str PySem.F.slot_str_strip PySem.F.type_str_strip mt_strip (pe_slice sl_str (pv 0) (po_some (pv 3)) (po_some (pv 4)))) pa_nil))) pa_nil)))
      (pss_one (ps_par (i := 2) (j := 3) rfl sc_pieces.nd rfl rfl (by decide) rfl rfl (pa_cons (pe_ix ix_str (pv 0) (pv 4) (fun _ _ => rfl)) (pa_cons (pe_op op_add (pv 4) pe_int) pa_nil)) rfl))) pss_nil)))
      (pss_cons (ps_expr (pe_bm PySem.F.plainAttrs_list PySem.F.slot_list_append PySem.F.type_list_append mt_append (pv 1) (pa_cons (pe_tup (pa_cons (pv 2) (pa_cons (pe_bm0 PySem.F.plainAttrs_str PySem.F.slot_str_strip PySem.F.type_str_strip mt_strip (pe_slice sl_str (pv 0) (po_some (pv 3)) po_none)) pa_nil))) pa_nil)))
      (pss_one (ps_ret (pv 1))))))), ?_⟩
    refine sqT ?_
    refine ⟨line5 (by simp), fun D hD => ?_⟩
    have s1 : Same H (upd H D (.lst [])) := Same.add hD
    have e1 : (upd H D (.lst [])) D = some (.lst []) := upd_same
    generalize upd H D (.lst []) = H1 at s1 e1 ⊢
    dsimp only [gName, List.set]
    refine sqT ?_
    have e45 : ("-" : Str) = mk [45] := rfl
    have e43 : ("+" : Str) = mk [43] := rfl
    obtain ⟨s0, b0, hs0⟩ : ∃ s0 b0 : Nat, (if startsT [45] l = true then (45, 1) else (43, 0) : Nat × Nat) = (s0, b0) := ⟨_, _, rfl⟩
    have hb0 : b0 ≤ l.length ∧ b0 ≤ 1 := by
      split at hs0
      · rename_i h
        have := (Prod.mk.inj hs0).2
        have h2 : l.take 1 = [45] := beq_iff_eq.mp h
        have h3 := congrArg List.length h2
        rw [List.length_take] at h3
        simp at h3
        omega
      · have := (Prod.mk.inj hs0).2
        omega
    have hp0 : piecesT l = piecesG s0 [] (l.drop b0) := by
      unfold piecesT
      split at hs0
      · rename_i h
        rw [if_pos h, ← (Prod.mk.inj hs0).1, ← (Prod.mk.inj hs0).2]
      · rename_i h
        rw [if_neg h, ← (Prod.mk.inj hs0).1, ← (Prod.mk.inj hs0).2]
        rfl
    refine tIfJ (fun v G => ∃ T, v = .ref T ∧ G T = some (.tup [.str (mk [s0]), .int (b0 : Nat)]) ∧ Same H1 G) ?_ (fun key => ?_)
    rotate_left
    · refine ⟨_, rfl, rfl, _, _, rfl, rfl, _, rfl, ?_⟩
      rw [e45, starts_mk]
      by_cases c : startsT [45] l = true
      · rw [if_pos c] at hs0
        rw [c]
        refine iteT ⟨line5 (by simp), fun T hT => key _ _ ⟨T, rfl, ?_, Same.add hT⟩⟩
        rw [upd_same, ← (Prod.mk.inj hs0).1, ← (Prod.mk.inj hs0).2]
        rfl
      · rw [if_neg c] at hs0
        rw [Bool.not_eq_true] at c
        rw [c]
        refine iteF ⟨line5 (by simp), fun T hT => key _ _ ⟨T, rfl, ?_, Same.add hT⟩⟩
        rw [upd_same, ← (Prod.mk.inj hs0).1, ← (Prod.mk.inj hs0).2]
        rfl
    rintro v G ⟨T0, rfl, hT0, sG⟩
    refine ⟨T0, _, rfl, SqT.of hT0, rfl, _, _, rfl, _, _, rfl, rfl, ?_⟩
    dsimp only [gName, List.set]
    refine sqT ?_
    have hGD := sG _ _ e1
    have sHG := Same.trans s1 sG
    refine ⟨_, rfl, _, rfl, _, _, rfl, ⟨str_line hl, rfl⟩, _, _, rfl, ⟨by omega, by omega, by omega, by rw [mk_len]; omega⟩, ?_⟩
    rw [mk_len]
    have hn : ((l.length : Int) - (b0 : Int)).toNat = l.length - b0 := by omega
    rw [hn]
    refine for_range (fun k σ G => ∃ (s b : Nat) (done : List (Nat × Tx)) (vs : List V) (v4 : Option V), σ = [some (.str (mk l)), some (.ref D), some (.str (mk [s])), some (.int (b : Nat)), v4] ∧ Same H G ∧ G D = some (.lst vs) ∧ PcsAt K G vs done ∧ done.length ≤ k ∧ b ≤ b0 + k ∧ piecesT l = done ++ piecesG s ((l.take (b0 + k)).drop b) (l.drop (b0 + k)))
      ⟨s0, b0, [], [], none, rfl, sHG, hGD, ⟨rfl, fun i v p hv => by cases hv⟩, Nat.le_refl _, Nat.le_refl _, ?_⟩ ?_ ?_
    · rw [hp0, List.drop_of_length_le (show (l.take (b0 + 0)).length ≤ b0 by rw [List.length_take]; omega)]
      rfl
    · rintro k σ G2 hk ⟨s, b, done, vs, v4, rfl, s2, d2, p2, hd, hb, hpc⟩
      have hi : b0 + k < l.length := by omega
      obtain ⟨c, hc1⟩ : ∃ c, l[b0 + k]? = some c := ⟨l[b0 + k], List.getElem?_eq_getElem hi⟩
      have c127 := (hc c (List.mem_of_getElem? hc1)).2
      have ei : (b0 : Int) + (k : Int) = ((b0 + k : Nat) : Int) := by omega
      have hdrop : l.drop (b0 + k) = c :: l.drop (b0 + k + 1) := by
        rw [List.drop_eq_getElem_cons hi]
        rw [List.getElem?_eq_getElem hi] at hc1
        rw [Option.some.inj hc1]
      rw [hdrop, piecesG] at hpc
      rw [ei]
      refine ⟨_, rfl, _, rfl, mk l, _, c, rfl, rfl, str_line hl, by rw [mk_toList]; exact atI_nat hc1, c, _, rfl, rfl, _, rfl, ?_⟩
      rw [sg_sign c c127]
      cases hsg : isSg c with
      | true =>
        rw [if_pos hsg] at hpc
        refine iteT (sqT ?_)
        have clp : ClT ((l.take (b0 + k)).drop b) := hc.sub fun x hx => List.mem_of_mem_take (List.mem_of_mem_drop hx)
        have lnp : ((l.take (b0 + k)).drop b).length ≤ 50000 := by rw [List.length_drop, List.length_take]; omega
        have ecut : cutS (mk l) (some (b : Int)) (some ((b0 + k : Nat) : Int)) = mk ((l.take (b0 + k)).drop b) := by rw [cutS_nat, List.drop_take]
        refine ⟨_, rfl, .inl ⟨rfl, _, SqL.of d2⟩, _, rfl, _, rfl, _, rfl, _, rfl, _, rfl, _, rfl, mk l, rfl, str_line hl, ?_⟩
        rw [ecut]
        refine ⟨rfl, mk _, rfl, rfl, str_line lnp, ?_⟩
        rw [strip_mk clp]
        refine ⟨line5 (by simp), fun T hT => ?_⟩
        have s3 : Same G2 (upd G2 T (.tup [V.str (mk [s]), V.str (mk (stripT ((l.take (b0 + k)).drop b)))])) := Same.add hT
        have e3 : (upd G2 T (.tup [V.str (mk [s]), V.str (mk (stripT ((l.take (b0 + k)).drop b)))])) T = some (.tup [V.str (mk [s]), V.str (mk (stripT ((l.take (b0 + k)).drop b)))]) := upd_same
        generalize upd G2 T (.tup [V.str (mk [s]), V.str (mk (stripT ((l.take (b0 + k)).drop b)))]) = G3 at s3 e3 ⊢
        have d3 := s3 _ _ d2
        refine ⟨D, vs, _, rfl, rfl, d3, lineT (by have := p2.1; omega), ?_⟩
        refine ⟨_, rfl, _, rfl, mk l, _, c, rfl, rfl, str_line hl, by rw [mk_toList]; exact atI_nat hc1, _, rfl, _, _, rfl, rfl, _, _, rfl, ?_⟩
        have e4 : ((b0 + k : Nat) : Int) + 1 = ((b0 + (k + 1) : Nat) : Int) := by omega
        refine ⟨c, b0 + (k + 1), done ++ [(s, stripT ((l.take (b0 + k)).drop b))], _, _, by rw [← e4]; rfl, Same.mut (Same.trans s2 s3) hD, upd_same, (p2.same s3).push d3 (SqT.of e3), by rw [List.length_append]; exact Nat.succ_le_succ hd, Nat.le_refl _, ?_⟩
        rw [hpc, List.append_assoc]
        have : (l.take (b0 + (k + 1))).drop (b0 + (k + 1)) = [] := List.drop_of_length_le (by rw [List.length_take]; omega)
        rw [this]
        rfl
      | false =>
        rw [if_neg (by rw [hsg]; exact Bool.false_ne_true)] at hpc
        refine iteF ⟨s, b, done, vs, _, rfl, s2, d2, p2, by omega, by omega, ?_⟩
        have : (l.take (b0 + (k + 1))).drop b = (l.take (b0 + k)).drop b ++ [c] := by
          rw [← Nat.add_assoc, List.take_add_one, hc1, List.drop_append_of_le_length (by rw [List.length_take]; omega)]
          rfl
        rw [this]
        exact hpc
    · rintro σ G2 ⟨s, b, done, vs, v4, rfl, s2, d2, p2, hd, hb, hpc⟩
      have hlb : b0 + (l.length - b0) = l.length := by omega
      rw [hlb, List.take_length, List.drop_length, piecesG] at hpc
      refine sqT ?_
      have clp : ClT (l.drop b) := hc.sub fun x hx => List.mem_of_mem_drop hx
      have lnp : (l.drop b).length ≤ 50000 := by rw [List.length_drop]; omega
      unfold tNoPart
      refine ⟨_, rfl, .inl ⟨rfl, _, SqL.of d2⟩, _, rfl, _, rfl, _, rfl, _, rfl, mk l, rfl, str_line hl, ?_⟩
      rw [cutS_from]
      refine ⟨rfl, mk _, rfl, rfl, str_line lnp, ?_⟩
      rw [strip_mk clp]
      refine ⟨line5 (by simp), fun T hT => ?_⟩
      have s3 : Same G2 (upd G2 T (.tup [V.str (mk [s]), V.str (mk (stripT (l.drop b)))])) := Same.add hT
      have e3 : (upd G2 T (.tup [V.str (mk [s]), V.str (mk (stripT (l.drop b)))])) T = some (.tup [V.str (mk [s]), V.str (mk (stripT (l.drop b)))]) := upd_same
      generalize upd G2 T (.tup [V.str (mk [s]), V.str (mk (stripT (l.drop b)))]) = G3 at s3 e3 ⊢
      have d3 := s3 _ _ d2
      refine ⟨D, vs, _, rfl, rfl, d3, lineT (by have := p2.1; omega), ?_⟩
      refine ⟨_, rfl, q D _ _ (Same.mut (Same.trans s2 s3) hD) upd_same ?_⟩
      rw [hpc]
      exact (p2.same s3).push d3 (SqT.of e3)
abbrev KnPieces (P : Program) (w : World) (K : PySem.W.Frag) (mg : Str → Option Value) (base : Heap) : Prop := Kn P w K mg base CX0 1 "pieces" ["text"] [] (spPieces K)
theorem piecesG_ok {P0 : Nat → Prop} : ∀ (l : Tx) (s : Nat) (acc : Tx), isSg s = true → (∀ c ∈ acc, P0 c) → (∀ c ∈ l, P0 c) → ∀ x ∈ piecesG s acc l, isSg x.1 = true ∧ (∀ c ∈ x.2, P0 c) ∧ x.2.length ≤ acc.length + l.length
  | [], s, acc, hs, ha, _, x, hx => by
    rw [piecesG, List.mem_singleton] at hx
    subst hx
    exact ⟨hs, fun c hc => ha c (stripT_sub acc c hc), stripT_len acc⟩
  | c :: l, s, acc, hs, ha, hl, x, hx => by
    have hl2 : ∀ c ∈ l, P0 c := fun d hd => hl d (List.mem_cons_of_mem _ hd)
    rw [piecesG] at hx
    split at hx
    · rename_i h
      rcases List.mem_cons.mp hx with rfl | hx
      · exact ⟨hs, fun c hc => ha c (stripT_sub acc c hc), Nat.le_trans (stripT_len acc) (by omega)⟩
      · obtain ⟨a1, a2, a3⟩ := piecesG_ok l c [] h (fun d hd => by cases hd) hl2 x hx
        exact ⟨a1, a2, by simp only [List.length_cons, List.length_nil] at a3 ⊢; omega⟩
    · obtain ⟨a1, a2, a3⟩ := piecesG_ok l s (acc ++ [c]) hs (fun d hd => by
        rcases List.mem_append.mp hd with h | h
        · exact ha d h
        · rw [List.mem_singleton.mp h]
          exact hl c (List.mem_cons_self ..)) hl2 x hx
      exact ⟨a1, a2, by simp only [List.length_append, List.length_cons, List.length_nil] at a3 ⊢; omega⟩
theorem pieces_ok {l : Tx} (h : ClT l) : ∀ x ∈ piecesT l, isSg x.1 = true ∧ ClT x.2 ∧ x.2.length ≤ l.length := fun x hx => by
  unfold piecesT at hx
  split at hx
  · obtain ⟨a1, a2, a3⟩ := piecesG_ok (P0 := fun c => 32 ≤ c ∧ c < 127) (l.drop 1) 45 [] rfl (fun d hd => by cases hd) (fun c hc => h c (List.mem_of_mem_drop hc)) x hx
    rw [List.length_drop] at a3
    exact ⟨a1, a2, by simp only [List.length_nil] at a3; omega⟩
  · obtain ⟨a1, a2, a3⟩ := piecesG_ok (P0 := fun c => 32 ≤ c ∧ c < 127) l 43 [] rfl (fun d hd => by cases hd) h x hx
    exact ⟨a1, a2, by simp only [List.length_nil] at a3; omega⟩
theorem piecesG_len : ∀ (l : Tx) (s : Nat) (acc : Tx), (piecesG s acc l).length ≤ l.length + 1
  | [], _, _ => Nat.le_refl _
  | c :: l, s, acc => by
    rw [piecesG]
    split
    · exact Nat.succ_le_succ (piecesG_len l c [])
    · exact Nat.le_succ_of_le (piecesG_len l s _)
theorem figN_lt {b : Nat} : ∀ (l : Tx) (n k : Nat), l.all (isFigB b) = true → n < b ^ k → l.foldl (fun n c => n * b + figV c) n < b ^ (k + l.length)
  | [], n, k, _, h => h
  | c :: l, n, k, hl, h => by
    rw [List.all_cons, Bool.and_eq_true] at hl
    obtain ⟨_, h2⟩ := fig_lt hl.1
    rw [List.foldl_cons, List.length_cons, show k + (l.length + 1) = (k + 1) + l.length by omega]
    refine figN_lt l _ (k + 1) hl.2 ?_
    rw [Nat.pow_succ]
    have : (n + 1) * b ≤ b ^ k * b := Nat.mul_le_mul_right b h
    rw [Nat.succ_mul] at this
    omega
theorem figured_lt {l : Tx} {b m n : Nat} (hb : b = 2 ∧ m = 16 ∨ b = 10 ∧ m = 5 ∨ b = 16 ∧ m = 4) (h : figured l b m = some n) : n < 100000 := by
  unfold figured at h
  split at h
  · rename_i c
    obtain ⟨c1, c2, c3⟩ := c
    have k := figN_lt l 0 0 c3 (by rw [Nat.pow_zero]; exact Nat.one_pos)
    rw [Nat.zero_add] at k
    have e : figN b l = n := Option.some.inj h
    have k : figN b l < b ^ l.length := k
    rw [e] at k
    have mono : b ^ l.length ≤ b ^ m := Nat.pow_le_pow_right (by omega) c2
    rcases hb with ⟨rfl, rfl⟩ | ⟨rfl, rfl⟩ | ⟨rfl, rfl⟩
    · have : 2 ^ 16 = 65536 := rfl
      omega
    · have : 10 ^ 5 = 100000 := rfl
      omega
    · have : 16 ^ 4 = 65536 := rfl
      omega
  · cases h
theorem numT_lt {p : Tx} {n : Nat} (h : numT p = some n) : n < 100000 := by
  unfold numT at h
  split at h
  · unfold signN at h
    split at h
    · split at h
      · rename_i c hl
        have e := Option.some.inj h
        unfold isLet low1 at hl
        simp only [Bool.and_eq_true, decide_eq_true_eq] at hl
        split at hl <;> omega
      · cases h
    · cases h
  · split at h
    · exact figured_lt (.inr (.inr ⟨rfl, rfl⟩)) h
    · split at h
      · exact figured_lt (.inl ⟨rfl, rfl⟩) h
      · exact figured_lt (.inr (.inl ⟨rfl, rfl⟩)) h
/-! sum_of -/
def spansS (k : Str) : Option (Int × Int) := match OSn.lookup k with
  | some s => some s
  | none => ST.lookup k
def spSum (K : PySem.W.Frag) : Sp := fun vs H Q E => ∃ (n : Nat) (l : Tx) (k : Str) (lo hi : Int) (a : Addr) (nm : Tx → Option Int), vs = [.int (n : Nat), .str (mk l), .str k, .ref a] ∧ n ≤ 100000 ∧ ClT l ∧ l.length ≤ 50000 ∧ spansS k = some (lo, hi) ∧ NmAt H a nm ∧ (∀ p i, nm p = some i → Bil i) ∧ Tells K H Q E n (sumT nm l lo hi)
abbrev N_sum_of : List Str := ["number", "text", "kind", "names", "total", "sign", "piece", "least", "most"]
theorem sc_sum_of : FnScope ["number", "text", "kind", "names", "total", "sign", "piece", "least", "most"] ["number", "text", "kind", "names"] (defScope s_sum_of) := ⟨rfl, rfl, rfl, by decide +kernel, rfl, by decide +kernel, by decide +kernel⟩
theorem ok_sumof (F : FnP K "sum_of" s_sum_of dvs f fd) (hC : Con w K mg []) (hR : ConR w K mg) (k_pieces : KnPieces P w K mg base) (k_reckoned_on : KnOn P w K mg base) (k_worth : KnWorth P w K mg base) (b_BadRow : BadRo P w K mg base) : FnOk P w K mg base (L2.CX P w) 4 f fd ["number", "text", "kind", "names"] (spSum K) := by
  have g_SPANS := hC.g_SPANS
  have g_OWN_SPANS := hR.g_OWN_SPANS
  obtain ⟨_, _, D_SPANS⟩ := hC.spans
  obtain ⟨_, _, D_OWN_SPANS⟩ := hR.osp
  refine F.ok sc_sum_of (fun vs H Q E h => ?_) (fun cdv A outer s H vs Q E hr h => ?_)
  · obtain ⟨n, l, k, lo, hi, a, nm, rfl, _⟩ := h
    rfl
  · obtain ⟨n, l, k, lo, hi, a, nm, rfl, hn, hc, hl, hk, hN, hB, q⟩ := h
    refine ⟨_, (pss_cons (ps_set (i := 4) sc_sum_of.nd rfl (Or.inl rfl) pe_int)
      (pss_cons (ps_for (passes_of rfl) rfl (pi_list (pk k_pieces hr (by decide) rfl pass0 (pa_cons (pv 1) pa_nil))) (pg_tup rfl (pgs_cons (pg_name (i := 5) sc_sum_of.nd rfl (Or.inl rfl)) (pgs_cons (pg_name (i := 6) sc_sum_of.nd rfl (Or.inl rfl)) pgs_nil)))
      (pss_one (ps_set (i := 4) sc_sum_of.nd rfl (Or.inl rfl) (pk k_reckoned_on hr (by decide) rfl passT (pa_cons (pv 0) (pa_cons (pv 4) (pa_cons (pv 5) (pa_cons (pk k_worth hr (by decide) rfl passT (pa_cons (pv 0) (pa_cons (pv 6) (pa_cons (pv 3) pa_nil)))) pa_nil))))))))
      (pss_cons (ps_asg (pe_ifExp (pt_cmpR (op_in_kd D_OWN_SPANS) (pv 2) (pe_glob (v := .ref (He.ga K "OWN_SPANS")) rfl g_OWN_SPANS rfl) rfl) (pe_ix ix_kdict (pe_glob (v := .ref (He.ga K "OWN_SPANS")) rfl g_OWN_SPANS rfl) (pv 2) (fun _ _ => rfl)) (pe_ix ix_kdict (pe_glob (v := .ref (He.ga K "SPANS")) rfl g_SPANS rfl) (pv 2) (fun _ _ => rfl))) (pg_tup rfl (pgs_cons (pg_name (i := 7) sc_sum_of.nd rfl (Or.inl rfl)) (pgs_cons (pg_name (i := 8) sc_sum_of.nd rfl (Or.inl rfl)) pgs_nil))))
      (pss_cons (ps_if (pt_not (pt_chain op_le op_le (pv 7) (pv 4) (pv 8))) (pss_one (ps_raise rfl (takes_of rfl rfl rfl rfl) (pmk_bad b_BadRow hr (by decide) rfl (pa_cons (pv 0) (pa_cons pe_str pa_nil))))) pss_nil)
      (pss_one (ps_ret (pv 4))))))), ?_⟩
    refine sqT (show tSeq _ _ _ _ _ from ?_)
    have pok := pieces_ok hc
    refine sqT ?_
    refine ⟨_, rfl, l, rfl, hc, hl, fun D vs H1 s1 hD hP => ?_⟩
    have hlv : vs.length = (piecesT l).length := hP.1
    refine ⟨D, rfl, ⟨_, SqL.of hD⟩, for_list (K := K) (a := D) (xs := vs) (fun i σ G => ∃ (t : Int) (v5 v6 : Option V), σ = [some (.int (n : Nat)), some (.str (mk l)), some (.str k), some (.ref a), some (.int t), v5, v6, none, none] ∧ Same H1 G ∧ Bil t ∧ sumG nm 0 (piecesT l) = sumG nm t ((piecesT l).drop i))
      ⟨0, none, none, rfl, Same.refl _, ⟨by decide, by decide⟩, rfl⟩ (fun i σ G _ ⟨_, _, _, _, h, _⟩ => SqL.of (h _ _ hD)) ?_ ?_⟩
    · rintro i x σ G hx ⟨t, v5, v6, rfl, sG, ht, hsum⟩
      have hiv : i < vs.length := (List.getElem?_eq_some_iff.mp hx).1
      obtain ⟨⟨c, p⟩, hp⟩ : ∃ p, (piecesT l)[i]? = some p := ⟨(piecesT l)[i]'(by omega), List.getElem?_eq_getElem (by omega)⟩
      obtain ⟨T, rfl, hT⟩ := hP.2 i _ _ hx hp
      obtain ⟨p1, p2, p3⟩ := pok _ (List.mem_of_getElem? hp)
      have hdrop : (piecesT l).drop i = (c, p) :: (piecesT l).drop (i + 1) := by
        have hi2 : i < (piecesT l).length := by omega
        rw [List.drop_eq_getElem_cons hi2]
        rw [List.getElem?_eq_getElem hi2] at hp
        rw [Option.some.inj hp]
      rw [hdrop, sumG] at hsum
      refine ⟨T, _, rfl, Same.tup sG hT, rfl, _, _, rfl, _, _, rfl, rfl, ?_⟩
      dsimp only [gName, List.set]
      have s1G := Same.trans s1 sG
      refine ⟨_, rfl, _, rfl, _, rfl, _, rfl, _, rfl, _, rfl, n, p, a, nm, rfl, hn, p2, Nat.le_trans p3 hl, hN.same s1G, ?_⟩
      have bilw : ∀ o, worthT nm p = .ok o → Bil o := fun o ho => by
        unfold worthT at ho
        split at ho
        · rename_i i0 h0
          cases ho
          exact hB _ _ h0
        · split at ho
          · cases ho
          · split at ho
            · rename_i n0 h0
              cases ho
              have := numT_lt h0
              exact ⟨by omega, by omega⟩
            · cases ho
      cases hw : worthT nm p with
      | bad y =>
        rw [hw] at hsum
        have hq : sumT nm l lo hi = .bad y := by
          unfold sumT
          rw [hsum]
        rw [hq] at q
        exact fun G2 s2 => q _ (Same.trans s1G s2)
      | ok o =>
        rw [hw] at hsum
        dsimp only at hsum
        have bo := bilw o hw
        refine fun G2 s2 => ⟨n, t, o, c, rfl, hn, p1, ht, bo, ?_⟩
        cases ho : onT t c o with
        | bad y =>
          rw [ho] at hsum
          have hq : sumT nm l lo hi = .bad y := by
            unfold sumT
            rw [hsum]
          rw [hq] at q
          exact fun G3 s3 => q _ (Same.trans s1G (Same.trans s2 s3))
        | ok u =>
          rw [ho] at hsum
          dsimp only at hsum
          have bu : Bil u := by
            unfold onT at ho
            split at ho
            · cases ho
            · split at ho
              · rename_i h
                cases ho
                exact h
              · cases ho
          refine fun G3 s3 => ⟨u, _, _, rfl, Same.trans sG (Same.trans s2 s3), bu, hsum⟩
    · rintro σ G ⟨t, v5, v6, rfl, sG, ht, hsum⟩
      rw [hlv, List.drop_length, sumG] at hsum
      have hq : sumT nm l lo hi = if lo ≤ t ∧ t ≤ hi then .ok t else .bad "number" := by
        unfold sumT
        rw [hsum]
      have s1G := Same.trans s1 sG
      dsimp only
      refine sqT ?_
      refine tIfJ (fun v G2 => G2 = G ∧ ∃ T, v = .ref T ∧ SqT K G T [.int lo, .int hi]) ?_ (fun key => ?_)
      rotate_left
      · unfold spansS at hk
        cases ho : OSn.lookup k with
        | some sp =>
          rw [ho] at hk
          obtain rfl := Option.some.inj hk
          obtain ⟨T, e, hs⟩ := hR.ospR _ (lookup_mem ho)
          refine ⟨_, rfl, k, _, rfl, rfl, e, _, rfl, iteT ?_⟩
          exact ⟨_, rfl, _, k, .ref T, rfl, rfl, ⟨_, _, _, D_OWN_SPANS.at_, D_OWN_SPANS.lit, e, rfl⟩, key _ _ ⟨rfl, T, rfl, hs G⟩⟩
        | none =>
          rw [ho] at hk
          obtain ⟨T, e, hs⟩ := hC.span _ (lookup_mem hk)
          refine ⟨_, rfl, k, _, rfl, rfl, hR.ospN k (lookup_none ho), _, rfl, iteF ?_⟩
          exact ⟨_, rfl, _, k, .ref T, rfl, rfl, ⟨_, _, _, D_SPANS.at_, D_SPANS.lit, e, rfl⟩, key _ _ ⟨rfl, T, rfl, hs G⟩⟩
      rintro v G2 ⟨rfl, T, rfl, hT⟩
      refine ⟨T, _, rfl, hT, rfl, _, _, rfl, _, _, rfl, rfl, ?_⟩
      dsimp only [gName, List.set]
      refine sqT ?_
      refine ⟨_, rfl, _, rfl, _, _, rfl, rfl, _, rfl, ?_⟩
      by_cases c1 : lo ≤ t
      · refine itT (decide_eq_true c1) ⟨_, rfl, _, _, rfl, rfl, _, rfl, ?_⟩
        by_cases c2 : t ≤ hi
        · rw [if_pos ⟨c1, c2⟩] at hq
          rw [hq] at q
          rw [decide_eq_true c2]
          exact itF rfl ⟨_, rfl, q _ s1G⟩
        · rw [if_neg (fun h => c2 h.2)] at hq
          rw [hq] at q
          rw [decide_eq_false c2]
          exact itT rfl ⟨_, rfl, by simp, ⟨_, _, rfl, small_lg hn, by decide +kernel⟩, fun d hd => q _ s1G d _ (Same.add hd) hd upd_same⟩
      · rw [if_neg (fun h => c1 h.1)] at hq
        rw [hq] at q
        exact itF (decide_eq_false c1) ⟨_, rfl, itT rfl ⟨_, rfl, by simp, ⟨_, _, rfl, small_lg hn, by decide +kernel⟩, fun d hd => q _ s1G d _ (Same.add hd) hd upd_same⟩⟩
abbrev KnSum (P : Program) (w : World) (K : PySem.W.Frag) (mg : Str → Option Value) (base : Heap) : Prop := Kn P w K mg base (L2.CX P w) 4 "sum_of" ["number", "text", "kind", "names"] [] (spSum K)
end
end Bm
set_option maxHeartbeats 800000
namespace Bm
open PySem PySem.Spec PyProof.Rows L2
def vNat (l : List Nat) : List V := l.map fun (n : Nat) => V.int (n : Int)
/-- where all stand, and the end -/
def spots (sz : List Nat) : List Nat := (List.range (sz.length + 1)).map (lay sz)
theorem lay_next {sz : List Nat} {k x : Nat} (h : sz[k]? = some x) : lay sz (k + 1) = lay sz k + x := by
  unfold lay
  rw [List.take_succ, h, List.sum_append]
  simp
theorem takeS {α : Type} {l : List α} {i : Nat} {x : α} (h : l[i]? = some x) : l.take (i + 1) = l.take i ++ [x] := by
  rw [List.take_add_one, h]
  rfl
section
variable {P : Program} {w : World} {K : PySem.W.Frag} {mg : Str → Option Value} {base : Heap} {f : Addr} {fd : FuncData} {dvs : List V}
def spSpots (K : PySem.W.Frag) : Sp := fun vs H Q _ => ∃ (a : Addr) (sz : List Nat), vs = [.ref a] ∧ SqL K H a (vNat sz) ∧ sz.length ≤ 1000 ∧ ∀ D H', Same H H' → H D = none → H' D = some (.lst (vNat (spots sz))) → Q (.ref D) H'
abbrev N_starts_of : List Str := ["sizes", "starts", "size"]
theorem sc_starts_of : FnScope ["sizes", "starts", "size"] ["sizes"] (defScope s_starts_of) := ⟨rfl, rfl, rfl, by decide +kernel, rfl, by decide +kernel, by decide +kernel⟩
theorem ok_spots (F : FnP K "starts_of" s_starts_of dvs f fd) : FnOk P w K mg base CX0 1 f fd ["sizes"] (spSpots K) := by
  refine F.ok sc_starts_of (fun vs H Q E h => ?_) (fun cdv A outer s H vs Q E hr h => ?_)
  · obtain ⟨a, sz, rfl, _⟩ := h
    rfl
  · obtain ⟨a, sz, rfl, hS, hl, q⟩ := h
    refine ⟨_, PSs.nox (pss_cons (ps_set (i := 1) sc_starts_of.nd rfl (Or.inl rfl) (pe_lst (pa_cons pe_int pa_nil)))
      (pss_cons (ps_for PassesOwn.never rfl (pi_list (pv 0)) (pg_name (i := 2) sc_starts_of.nd rfl (Or.inl rfl))
      (pss_one (ps_expr (pe_bm PySem.F.plainAttrs_list PySem.F.slot_list_append PySem.F.type_list_append mt_append (pv 1) (pa_cons (pe_op op_add (pe_ix ix_list (pv 1) (pe_un un_neg pe_int) (fun _ _ => rfl)) (pv 2)) pa_nil)))))
      (pss_one (ps_ret (pv 1))))), ?_⟩
    refine ⟨line5 (by simp), fun D hD => ?_⟩
    have hDn : H D = none := hD
    have s1 : Same H (upd H D (.lst [V.int 0])) := Same.add hD
    have e1 : (upd H D (.lst [V.int 0])) D = some (.lst [V.int 0]) := upd_same
    generalize upd H D (.lst [V.int 0]) = H1 at s1 e1 ⊢
    have vl : (vNat sz).length = sz.length := List.length_map ..
    refine ⟨_, rfl, a, rfl, ⟨_, s1.seq hS⟩, for_list (K := K) (a := a) (xs := vNat sz) (fun i σ G => ∃ v2 : Option V, σ = [some (.ref a), some (.ref D), v2] ∧ Same H G ∧ SqL K G a (vNat sz) ∧ G D = some (.lst (vNat ((List.range (i + 1)).map (lay sz)))))
      ⟨none, rfl, s1, s1.seq hS, e1⟩ (fun i σ G _ h => by obtain ⟨_, _, _, h, _⟩ := h; exact h) ?_ ?_⟩
    · rintro i x σ G hi ⟨v2, rfl, sG, gS, gD⟩
      have hi' : (sz.map fun (n : Nat) => V.int (n : Int))[i]? = some x := hi
      rw [List.getElem?_map] at hi'
      obtain ⟨n, hn, rfl⟩ := Option.map_eq_some_iff.mp hi'
      have hil := (List.getElem?_eq_some_iff.mp hn).1
      have hlast : atI (vNat ((List.range (i + 1)).map (lay sz))) (-1) = some (.int (lay sz i : Nat)) := by
        unfold vNat
        rw [List.range_succ, List.map_append, List.map_append]
        exact atI_last _ _
      refine ⟨_, rfl, .inl ⟨rfl, _, SqL.of gD⟩, _, rfl, _, rfl, D, _, _, _, rfl, rfl, SqL.of gD, hlast, _, rfl, _, _, rfl, rfl, D, _, _, rfl, rfl, gD, lineT (by unfold vNat; rw [List.length_map, List.length_map, List.length_range]; omega), ?_⟩
      refine ⟨_, rfl, Same.mut sG hDn, ?_, ?_⟩
      · exact (Same.mut sG hDn).seq hS
      · rw [upd_same]
        unfold vNat
        rw [List.range_succ (n := i + 1), List.map_append, List.map_append]
        have e : ((lay sz i : Nat) : Int) + (n : Int) = ((lay sz (i + 1) : Nat) : Int) := by rw [lay_next hn]; omega
        show some (HO.lst (_ ++ [V.int (((lay sz i : Nat) : Int) + (n : Int))])) = _
        rw [e]
        rfl
    · rintro σ G ⟨v2, rfl, sG, gS, gD⟩
      rw [vl] at gD
      exact ⟨_, rfl, q D G sG hDn gD⟩
abbrev KnSpots (P : Program) (w : World) (K : PySem.W.Frag) (mg : Str → Option Value) (base : Heap) : Prop := Kn P w K mg base CX0 1 "starts_of" ["sizes"] [] (spSpots K)
end
def goV : Option Nat → V
  | none => .non
  | some g => .int (g : Int)
def onesV (v : V) : Bool := match v with
  | .int i => decide (i = 1)
  | _ => false
/-- how many of a list are one -/
def onesAt (G : Hp) (W : Addr) : Nat := match G W with
  | some (.lst l) => l.countP onesV
  | _ => 0
theorem onesAt_is {G : Hp} {W : Addr} {sz : List Nat} (h : G W = some (.lst (vNat sz))) : onesAt G W = ones sz := by
  unfold onesAt ones
  rw [h]
  show (vNat sz).countP onesV = _
  unfold vNat
  rw [List.countP_map]
  refine List.countP_congr fun x _ => ?_
  show (decide ((x : Int) = 1)) = true ↔ _
  rw [decide_eq_true_eq, decide_eq_true_eq]
  omega
theorem sets_len : ∀ (l : List Nat) (s : List Nat), (l.foldl (fun s k => s.set k 2) s).length = s.length
  | [], _ => rfl
  | k :: l, s => by rw [List.foldl_cons, sets_len l, List.length_set]
theorem sets_at : ∀ (l : List Nat) (s : List Nat) (k : Nat), k < s.length → (l.foldl (fun s k => s.set k 2) s)[k]? = if k ∈ l then some 2 else s[k]?
  | [], s, k, _ => by simp
  | x :: l, s, k, hk => by
    rw [List.foldl_cons, sets_at l _ k (by rw [List.length_set]; exact hk)]
    by_cases c : k ∈ l
    · rw [if_pos c, if_pos (List.mem_cons_of_mem _ c)]
    · rw [if_neg c]
      by_cases e : k = x
      · rw [if_pos (by rw [e]; exact List.mem_cons_self ..), e, List.getElem?_set_self (by rw [← e]; exact hk)]
      · rw [if_neg (fun z => (List.mem_cons.mp z).elim e c), List.getElem?_set_ne (fun z => e z.symm)]
theorem sets_step {gs : List (Option Nat)} {sz fl : List Nat} (h : ∀ k, k ∈ fl ↔ farAt gs sz k = true) : fl.foldl (fun s k => s.set k 2) sz = wstep gs sz := by
  refine List.ext_getElem? fun k => ?_
  by_cases c : k < sz.length
  · rw [sets_at _ _ _ c, wstep_at c]
    by_cases d : farAt gs sz k = true
    · rw [if_pos ((h k).mpr d), if_pos d]
    · rw [if_neg (fun z => d ((h k).mp z)), if_neg d, List.getD_eq_getElem?_getD, List.getElem?_eq_getElem c]
      rfl
  · rw [List.getElem?_eq_none (by rw [sets_len]; omega), List.getElem?_eq_none (by rw [wstep_len]; omega)]
theorem ixN_ofT {n k : Nat} (h : k < n) : ixN n ((k : Nat) : Int) = some k := by
  unfold ixN
  simp
  omega
section
variable {P : Program} {w : World} {K : PySem.W.Frag} {mg : Str → Option Value} {base : Heap} {f : Addr} {fd : FuncData} {dvs : List V}
/-- of all narrow: the layout in the end -/
def spWide (K : PySem.W.Frag) : Sp := fun vs H Q _ => ∃ (a b : Addr) (gs : List (Option Nat)) (s0 : List Nat), vs = [.ref a, .ref b] ∧ s0.length = gs.length ∧ SqL K H a (vNat s0) ∧ SqL K H b (gs.map goV) ∧ gs.length ≤ 1000 ∧ (∀ g, some g ∈ gs → g ≤ gs.length) ∧ ∀ D H', Same H H' → H D = none → H' D = some (.lst (vNat (wEndS gs s0))) → Q (.ref D) H'
abbrev N_widened : List Str := ["sizes", "goals", "wide", "starts", "number", "far", "goal"]
theorem sc_widened : FnScope ["sizes", "goals", "wide", "starts", "number", "far", "goal"] ["sizes", "goals"] (defScope s_widened) := ⟨rfl, rfl, rfl, by decide +kernel, rfl, by decide +kernel, by decide +kernel⟩
theorem ok_wide (F : FnP K "widened" s_widened dvs f fd) (k_starts_of : KnSpots P w K mg base) (k_is_reached : KnRe P w K mg base) (g_list : mg "list" = none) (g_enumerate : mg "enumerate" = none) (g_len : mg "len" = none) : FnOk P w K mg base CX0 2 f fd ["sizes", "goals"] (spWide K) := by
  refine F.ok sc_widened (fun vs H Q E h => ?_) (fun cdv A outer s H vs Q E hr h => ?_)
  · obtain ⟨a, b, gs, s0, rfl, _⟩ := h
    rfl
  · obtain ⟨a, b, gs, s0, rfl, hs0, hA, hB, hl, hg, q⟩ := h
    refine ⟨_, PSs.nox (pss_cons (ps_set (i := 2) sc_widened.nd rfl (Or.inr rfl) (pe_callTy call_list_of rfl g_list (by decide +kernel) (pa_cons (pv 0) pa_nil)))
      (pss_one (ps_while PassesOwn.never (pt_val pe_bl) (pss_cons (ps_set (i := 3) sc_widened.nd rfl (Or.inr rfl) (pk k_starts_of hr (by decide) rfl pass0 (pa_cons (pv 2) pa_nil)))
      (pss_cons (ps_setLc (i := 5) (own := [("number", 4), ("goal", 6)]) (g := gTup K 2 (gCons (gName 4) (gCons (gName 6) (gNil)))) rfl sc_widened.nd rfl rfl (sw_true rfl rfl rfl (by decide +kernel)) (pi_enum rfl g_enumerate (pa_cons (pv 1) pa_nil)) (blkOk_by (own := [("number", 4), ("goal", 6)]) (N := N_widened) (sc := defScope s_widened) (by decide +kernel)) (fun _ _ _ _ _ => (pg_tup rfl (pgs_cons (pg_name (i := 4) sc_widened.nd rfl (Or.inl rfl)) (pgs_cons (pg_name (i := 6) sc_widened.nd rfl (Or.inl rfl)) pgs_nil)))) (fun _ _ _ _ _ => (pts_one (PW.pt (pw_and (pt_cmpR op_notN (pv 6) pe_non (nomark _)) (pw_and (pt_cmpR op_eq (pe_ix (show IxR _ (rIxL K) from ix_list) (pv 2) (pv 4) (fun _ _ => rfl)) pe_int (nomark _)) (pw_and1 (pt_not (pt_val (pk k_is_reached hr (by decide) rfl pass0 (pa_cons (pe_ix (show IxR _ (rIxL K) from ix_list) (pv 3) (pv 4) (fun _ _ => rfl)) (pa_cons (pe_ix (show IxR _ (rIxL K) from ix_list) (pv 3) (pv 6) (fun _ _ => rfl)) pa_nil))))))))))) (fun _ _ _ _ _ => (pv 4)))
      (pss_cons (ps_if (pt_cmpR op_eq (pe_callB call_len rfl g_len boot_len (pa_cons (pv 5) pa_nil)) pe_int (nomark _)) (pss_one (ps_ret (pv 2))) pss_nil)
      (pss_one (ps_for PassesOwn.never rfl (pi_list (pv 5)) (pg_name (i := 4) sc_widened.nd rfl (Or.inl rfl))
      (pss_one (ps_asg pe_int (pg_sub (pv 2) (pv 4) set_list))))))))))), ?_⟩
    refine ⟨_, rfl, a, _, rfl, .inl hA, fun W hW => ?_⟩
    have hWn : H W = none := hW
    have s1 : Same H (upd H W (.lst (vNat s0))) := Same.add hW
    have e1 : (upd H W (.lst (vNat s0))) W = some (.lst (vNat s0)) := upd_same
    generalize upd H W (.lst (vNat s0)) = H1 at s1 e1 ⊢
    refine while_by (fun σ G => ∃ (n : Nat) (v3 v4 v5 v6 : Option V), σ = [some (.ref a), some (.ref b), some (.ref W), v3, v4, v5, v6] ∧ Same H G ∧ G W = some (.lst (vNat (wM gs s0 n)))) (fun _ G => onesAt G W) ⟨0, none, none, none, none, rfl, s1, e1⟩ ?_ (fun σ G R R' m h => ?_)
    · rintro σ G ⟨n, v3, v4, v5, v6, rfl, sG, gW⟩
      have wl := wM_len hs0 n
      refine ⟨_, rfl, iteT ⟨_, rfl, W, _, rfl, SqL.of gW, by omega, fun S G1 s1' hS hSt => ?_⟩⟩
      have g1W := s1' _ _ gW
      have sG1 := Same.trans sG s1'
      have glen : (gs.map goV).length = gs.length := List.length_map ..
      refine ⟨_, rfl, b, _, rfl, sG1.seq hB, fun F hF => ?_⟩
      refine lc_it (walk_enum (xs := gs.map goV)) (fun i G2 => Same G1 G2 ∧ G2 F = some (.lst (vNat ((List.range i).filter (farAt gs (wM gs s0 n)))))) ⟨Same.add hF, upd_same⟩ (fun _ _ _ h => (Same.trans sG1 h.1).seq hB) ?_ ?_
      · rintro i x G2 G2' hi ⟨k1, k2⟩ ⟨T, y, z, rfl, hT, rfl, hy, hz⟩
        have hz' : (gs.map goV)[i]? = some z := hz
        rw [List.getElem?_map] at hz'
        obtain ⟨go, hgo, rfl⟩ := Option.map_eq_some_iff.mp hz'
        obtain rfl : V.int (i : Nat) = y := Option.some.inj hy
        rw [glen] at hi
        have sT : Same G2 (upd G2 T (.tup [V.int (i : Nat), goV go])) := Same.add hT
        have eT : upd G2 T (.tup [V.int (i : Nat), goV go]) T = some (.tup [V.int (i : Nat), goV go]) := upd_same
        generalize upd G2 T (.tup [V.int (i : Nat), goV go]) = G3 at sT eT ⊢
        have k3 := Same.trans k1 sT
        have kF := sT _ _ k2
        have kW := k3 _ _ g1W
        have kS := k3 _ _ hSt
        have yes_ : farAt gs (wM gs s0 n) i = true → ∃ acc, G3 F = some (.lst acc) ∧ acc.length < sizeLine ∧ Same G1 (upd G3 F (.lst (acc ++ [V.int (i : Nat)]))) ∧ upd G3 F (.lst (acc ++ [V.int (i : Nat)])) F = some (.lst (vNat ((List.range (i + 1)).filter (farAt gs (wM gs s0 n))))) := fun hf => by
          refine ⟨_, kF, lineT (by unfold vNat; rw [List.length_map]; have := List.length_filter_le (farAt gs (wM gs s0 n)) (List.range i); rw [List.length_range] at this; omega), Same.mut k3 hF, ?_⟩
          rw [upd_same, List.range_succ, List.filter_append]
          unfold vNat
          rw [List.map_append, List.filter_cons, hf]
          rfl
        have no_ : farAt gs (wM gs s0 n) i = false → Same G1 G3 ∧ G3 F = some (.lst (vNat ((List.range (i + 1)).filter (farAt gs (wM gs s0 n))))) := fun hf => by
          refine ⟨k3, ?_⟩
          rw [List.range_succ, List.filter_append, List.filter_cons, hf]
          simpa using kF
        refine ⟨T, _, rfl, SqT.of eT, rfl, _, _, rfl, _, _, rfl, rfl, rfl, ?_⟩
        refine ⟨_, rfl, rfl, _, rfl, ?_⟩
        cases go with
        | none =>
          rw [show (!decide (goV none = V.non)) = false from congrArg Bool.not (decide_eq_true rfl)]
          refine iteF (iteF (no_ ?_))
          unfold farAt
          rw [hgo]
        | some g =>
          rw [show (!decide (goV (some g) = V.non)) = true from congrArg Bool.not (decide_eq_false (fun e => by cases e))]
          have hgl := hg g (List.mem_of_getElem? hgo)
          obtain ⟨x, hx⟩ : ∃ x, (wM gs s0 n)[i]? = some x := ⟨(wM gs s0 n)[i]'(by omega), List.getElem?_eq_getElem (by omega)⟩
          have hat : atI (vNat (wM gs s0 n)) ((i : Nat) : Int) = some (.int (x : Nat)) := atI_nat (by unfold vNat; rw [List.getElem?_map, hx]; rfl)
          have hsp : ∀ k, k ≤ gs.length → atI (vNat (spots (wM gs s0 n))) ((k : Nat) : Int) = some (.int (lay (wM gs s0 n) k : Nat)) := fun k hk => atI_nat (by
            unfold vNat spots
            rw [List.getElem?_map, List.getElem?_map, List.getElem?_range (by omega)]
            rfl)
          refine iteT ⟨_, rfl, _, rfl, W, _, _, _, rfl, rfl, SqL.of kW, hat, rfl, _, rfl, ?_⟩
          by_cases c : x = 1
          · rw [decide_eq_true (by rw [c]; rfl)]
            refine iteT ⟨_, rfl, _, rfl, S, _, _, _, rfl, rfl, SqL.of kS, hsp i (by omega), _, rfl, _, rfl, S, _, _, _, rfl, rfl, SqL.of kS, hsp g hgl, _, _, rfl, _, rfl, ?_⟩
            have ef : farAt gs (wM gs s0 n) i = !decide (near ((lay (wM gs s0 n) g : Nat) : Int) ((lay (wM gs s0 n) i : Nat) : Int)) := by
              unfold farAt
              rw [hgo]
              show (decide ((wM gs s0 n)[i]? = some 1) && _) = _
              rw [hx, c, decide_eq_true rfl, Bool.true_and]
              rfl
            show if (!decide (near ((lay (wM gs s0 n) g : Nat) : Int) ((lay (wM gs s0 n) i : Nat) : Int))) = true then _ else _
            rw [← ef]
            cases hf : farAt gs (wM gs s0 n) i with
            | true => exact iteT ⟨_, rfl, yes_ hf⟩
            | false => exact iteF (no_ hf)
          · rw [decide_eq_false (fun e => c (by have := V.int.inj e; omega))]
            refine iteF (iteF (no_ ?_))
            unfold farAt
            rw [hgo]
            show (decide ((wM gs s0 n)[i]? = some 1) && _) = false
            rw [hx, decide_eq_false (fun e => c (Option.some.inj e)), Bool.false_and]
      · rintro G2 ⟨k1, k2⟩
        rw [glen] at k2
        have kW := k1 _ _ g1W
        have sG2 := Same.trans sG1 k1
        have nFW : F ≠ W := fun z => by rw [z, g1W] at hF; cases hF
        refine ⟨_, rfl, _, _, rfl, .inl ⟨_, SqL.of k2, rfl⟩, rfl, _, rfl, ?_⟩
        have fin_ : ∀ k, k ∈ (List.range gs.length).filter (farAt gs (wM gs s0 n)) ↔ farAt gs (wM gs s0 n) k = true := fun k => by
          rw [List.mem_filter, List.mem_range]
          exact ⟨And.right, fun h => ⟨by have := (List.getElem?_eq_some_iff.mp (far_one h)).1; omega, h⟩⟩
        generalize (List.range gs.length).filter (farAt gs (wM gs s0 n)) = fl at k2 fin_ ⊢
        have fll : (vNat fl).length = fl.length := List.length_map ..
        by_cases c : fl = []
        · rw [decide_eq_true (by rw [c]; rfl)]
          have hno : ∀ k, farAt gs (wM gs s0 n) k = false := fun k => by
            cases e : farAt gs (wM gs s0 n) k with
            | false => rfl
            | true =>
              have := (fin_ k).mpr e
              rw [c] at this
              cases this
          rw [wEndS_of hs0 hno] at kW
          exact iteT ⟨_, rfl, q W G2 sG2 hWn kW⟩
        · rw [decide_eq_false (fun e => c (by
            have := V.int.inj e
            rw [fll] at this
            exact List.eq_nil_of_length_eq_zero (by omega)))]
          refine iteF ⟨_, rfl, F, rfl, ⟨_, SqL.of k2⟩, for_list (K := K) (a := F) (xs := vNat fl) (fun j σ G3 => ∃ u4 : Option V, σ = [some (.ref a), some (.ref b), some (.ref W), some (.ref S), u4, some (.ref F), v6] ∧ Same H G3 ∧ G3 F = some (.lst (vNat fl)) ∧ G3 W = some (.lst (vNat ((fl.take j).foldl (fun s k => s.set k 2) (wM gs s0 n)))))
            ⟨v4, rfl, sG2, k2, kW⟩ (fun j σ G3 _ h => by obtain ⟨_, _, _, h, _⟩ := h; exact SqL.of h) ?_ ?_⟩
          · rintro j x σ G3 hj ⟨u4, rfl, s3, f3, w3⟩
            have hj' : (fl.map fun (n : Nat) => V.int (n : Int))[j]? = some x := hj
            rw [List.getElem?_map] at hj'
            obtain ⟨k, hk, rfl⟩ := Option.map_eq_some_iff.mp hj'
            have hkl := (List.getElem?_eq_some_iff.mp (far_one ((fin_ k).mp (List.mem_of_getElem? hk)))).1
            have hsl : (vNat ((fl.take j).foldl (fun s k => s.set k 2) (wM gs s0 n))).length = (wM gs s0 n).length := by
              unfold vNat
              rw [List.length_map, sets_len]
            refine ⟨_, rfl, _, rfl, W, _, _, k, rfl, rfl, w3, by rw [hsl]; exact ixN_ofT hkl, _, rfl, Same.mut s3 hWn, by rw [upd_ne nFW]; exact f3, ?_⟩
            rw [upd_same, takeS hk, List.foldl_append]
            unfold vNat
            show some (HO.lst ((List.map (fun (n : Nat) => V.int (n : Int)) _).set k ((fun (n : Nat) => V.int (n : Int)) 2))) = _
            rw [← List.map_set]
            rfl
          · rintro σ G3 ⟨u4, rfl, s3, f3, w3⟩
            rw [fll, List.take_length, sets_step fin_] at w3
            refine ⟨⟨n + 1, _, _, _, _, rfl, s3, w3⟩, ?_⟩
            obtain ⟨k, hk⟩ : ∃ k, k ∈ fl := by
              cases fl with
              | nil => exact absurd rfl c
              | cons k _ => exact ⟨k, List.mem_cons_self ..⟩
            rw [onesAt_is w3, onesAt_is gW]
            exact wstep_less ((fin_ k).mp hk)
    · obtain ⟨c, e, r⟩ := h
      exact ⟨c, e, m _ _ r⟩
abbrev KnWide (P : Program) (w : World) (K : PySem.W.Frag) (mg : Str → Option Value) (base : Heap) : Prop := Kn P w K mg base CX0 2 "widened" ["sizes", "goals"] [] (spWide K)
end
end Bm
set_option maxHeartbeats 1000000
namespace Bm
open PySem PySem.Spec PyProof.Rows L2
theorem str_ok {l : Tx} (h : ClT l) : PyData.strOk (mk l) = true := by
  unfold PyData.strOk
  rw [← Array.all_toList]
  rw [mk_toList, List.all_eq_true]
  exact fun c hc => decide_eq_true (by have := (h c hc).2; omega)
theorem strs_lay : ∀ ls : List Tx, (∀ l ∈ ls, ClT l) → PyData.canLayAll0 (ls.map fun l => PyData.str (mk l)) = true ∧ PyData.depthAll (ls.map fun l => PyData.str (mk l)) ≤ 1
  | [], _ => by simp [PyData.canLayAll0, PyData.depthAll]
  | l :: ls, h => by
    obtain ⟨h1, h2⟩ := strs_lay ls fun x hx => h x (List.mem_cons_of_mem _ hx)
    simp only [List.map_cons, PyData.canLayAll0, PyData.depthAll, PyData.canLay0, PyData.depth, h1, str_ok (h l List.mem_cons_self), Bool.true_and]
    exact ⟨trivial, by omega⟩
theorem strs_shaped {ls : List Tx} (h : ∀ l ∈ ls, ClT l) : SeqAt.shaped (.list (ls.map fun l => PyData.str (mk l))) = true := by
  obtain ⟨h1, h2⟩ := strs_lay ls h
  unfold SeqAt.shaped
  simp only [PyData.canLay0, PyData.depth, h1, Bool.true_and]
  exact decide_eq_true (by omega)
theorem strs_dp {K : PySem.W.Frag} {H : Hp} : ∀ ls : List Tx, DpAll K H (vTx ls) (ls.map fun l => PyData.str (mk l))
  | [] => .nil
  | l :: ls => .cons (.str _) (strs_dp ls)
theorem strs_nil (ls : List Tx) : (PyData.list (ls.map fun l => PyData.str (mk l))).eqv (.list []) = decide (ls = []) := by
  cases ls <;> simp [PyData.eqv, PyData.eqvAll]
theorem cut_to1 {l : Tx} : cutS (mk l) none (some 1) = mk (l.take 1) := cutS_to (b := 1)
theorem cut_to2 {l : Tx} : cutS (mk l) none (some 2) = mk (l.take 2) := cutS_to (b := 2)
theorem cut_from2 {l : Tx} : cutS (mk l) (some 2) none = mk (l.drop 2) := cutS_from (a := 2)
theorem occ_let : ∀ c, c < 127 → isLet c = true → (Builtin.Str.occurrences "abcdefghijklmnopqrstuvwxyz" (mk [c]) 0 ("abcdefghijklmnopqrstuvwxyz" : Str).length 1).head? = some (c - 97) := by decide +kernel
theorem occ_fig : ∀ c, c < 127 → isFigB 16 c = true → (Builtin.Str.occurrences "0123456789abcdef" (mk [c]) 0 ("0123456789abcdef" : Str).length 1).head? = some (figV c) := by decide +kernel
theorem head_cons {α : Type} {l : List α} {x : α} (h : l.head? = some x) : ∃ r, l = x :: r := by
  cases l with
  | nil => cases h
  | cons y r => exact ⟨r, by rw [Option.some.inj h]⟩
theorem let_back : ∀ c, c < 127 → isLet (low1 c) = true → (low1 c - 97) + (if low1 c = c then 97 else 65) = c := by decide
theorem start_low : ∀ l : Tx, startsT [39] (lowT l) = startsT [39] l
  | [] => rfl
  | c :: l => by
    by_cases h : c = 39
    · rw [h]
      rfl
    · have h2 : low1 c ≠ 39 := by
        unfold low1
        split <;> omega
      refine (beq_false_of_ne (a := [low1 c]) (b := [39]) fun z => h2 (List.cons.inj z).1).trans ?_
      exact (beq_false_of_ne (a := [c]) (b := [39]) fun z => h (List.cons.inj z).1).symm
theorem asgC {x : V} {i : Nat} {D : Ends} {σ : L2.St} {H : Hp} (h : D.nx (σ.set i (some x)) H) : tAsg (tC x) (gName i) D σ H := h
/-- what a text's word writes: the law's own reading -/
def lawNum (l : Tx) : Option Nat := if startsT [39] l = true then signN (l.drop 1) else numT (lowT l)
theorem let_figs : ∀ c, c < 127 → decide (c ∈ ("abcdefghijklmnopqrstuvwxyz" ++ "0123456789" : Str).cps.toList) = (isLet c || isFig c) := by decide +kernel
theorem reg_text : ∀ i, i < 8 → ("r" ++ Str.ofString (toString ((i : Nat) : Int)) : Str) = mk (REGS.getD i []) := by decide +kernel
section
variable {P : Program} {w : World} {K : PySem.W.Frag} {mg : Str → Option Value} {base : Heap} {f : Addr} {fd : FuncData} {dvs : List V}
def spLNm : Sp := fun vs H Q _ => ∃ l : Tx, vs = [.str (mk l)] ∧ ClT l ∧ l.length ≤ 1000 ∧ ∀ H', Same H H' → Q (.bl (isNm l)) H'
abbrev N__law_is_name : List Str := ["_law_word", "_law_letters", "_law_registers", "_law_k", "_law_sign"]
theorem sc__law_is_name : FnScope ["_law_word", "_law_letters", "_law_registers", "_law_k", "_law_sign"] ["_law_word"] (defScope s__law_is_name) := ⟨rfl, rfl, rfl, by decide +kernel, rfl, by decide +kernel, by decide +kernel⟩
theorem ok_lnm (F : FnP K "_law_is_name" s__law_is_name dvs f fd) (g_len : mg "len" = none) (g_range : mg "range" = none) (g_str : mg "str" = none) : FnOk P w K mg base CX0 1 f fd ["_law_word"] spLNm := by
  refine F.ok sc__law_is_name (fun vs H Q E h => ?_) (fun cdv A outer s H vs Q E hr h => ?_)
  · obtain ⟨l, rfl, _⟩ := h
    rfl
  · obtain ⟨l, rfl, hc, hl, q⟩ := h
    refine ⟨_, PSs.nox (pss_cons (ps_set (i := 1) sc__law_is_name.nd rfl (Or.inr rfl) pe_str)
      (pss_cons (ps_if (PW.pt (pw_or (pt_not (pt_chain op_le op_le pe_int (pe_callB call_len rfl g_len boot_len (pa_cons (pv 0) pa_nil)) pe_int)) (pw_or (pt_cmpR op_notIn_sign (pe_ix ix_str (pv 0) pe_int (fun _ _ => rfl)) (pv 1) rfl) (pw_or1 (pt_cmpR op_eq (pv 0) pe_str (nomark _)))))) (pss_one (ps_ret pe_bl)) pss_nil)
      (pss_cons (ps_setLc (i := 2) (own := [("_law_k", 3)]) (g := gName 3) rfl sc__law_is_name.nd rfl rfl (sw_true rfl rfl rfl (by decide +kernel)) (pi_range1 rfl g_range (pa_cons pe_int pa_nil)) (blkOk_by (own := [("_law_k", 3)]) (N := N__law_is_name) (sc := defScope s__law_is_name) (by decide +kernel)) (fun _ _ _ _ _ => (pg_name (i := 3) sc__law_is_name.nd rfl (Or.inl rfl))) (fun _ _ _ _ _ => pts_nil) (fun _ _ _ _ _ => (pe_op op_add_str pe_str (pe_callTy call_str_int rfl g_str (by decide +kernel) (pa_cons (pv 3) pa_nil)))))
      (pss_one (ps_ret (pe_and (pe_cmpR (op_eqD hr.units) (pe_lc (own := [("_law_sign", 4)]) (g := gName 4) rfl sc__law_is_name.nd (pi_str (pv 0)) (blkOk_by (own := [("_law_sign", 4)]) (N := N__law_is_name) (sc := defScope s__law_is_name) (by decide +kernel)) (fun _ _ _ _ _ => (pg_name (i := 4) sc__law_is_name.nd rfl (Or.inl rfl))) (fun _ _ _ _ _ => (pts_one (pt_cmpR op_notIn_sign (pv 4) (pe_op op_add_str (pv 1) pe_str) rfl))) (fun _ _ _ _ _ => (pv 4))) (pe_lst pa_nil) (nomark _)) (pe_one (pe_cmpR op_notIn_seq (pv 0) (pv 2) rfl)))))))), ?_⟩
    have hsig : ∀ i c, l[i]? = some c → c < 127 := fun i c h => (hc c (List.mem_of_getElem? h)).2
    refine sqT (asgC (x := V.str "abcdefghijklmnopqrstuvwxyz") ?_)
    have q0 := q H (Same.refl _)
    dsimp only
    refine sqT ?_
    refine ifJ (fun σ' G => σ' = [some (.str (mk l)), some (.str "abcdefghijklmnopqrstuvwxyz"), none, none, none] ∧ G = H ∧ (decide (1 ≤ l.length) && decide (l.length ≤ 8) && isLet (l.headD 0) && !decide (l = HERE)) = true) ?_ (fun key => ?_)
    rotate_left
    · have qn : isNm l = false → Q (.bl false) H := fun h => by rwa [h] at q0
      have e104 : ("here" : Str) = mk HERE := rfl
      refine ⟨_, rfl, _, _, rfl, ⟨str_line (by omega), rfl⟩, _, _, rfl, rfl, _, rfl, ?_⟩
      rw [mk_len]
      by_cases cA : (1 : Int) ≤ (l.length : Int)
      · rw [decide_eq_true cA]
        refine iteT ⟨_, _, rfl, rfl, _, rfl, ?_⟩
        by_cases cB : (l.length : Int) ≤ 8
        · rw [decide_eq_true cB]
          refine itF rfl ?_
          obtain ⟨x, r, rfl⟩ : ∃ x r, l = x :: r := by
            cases l with
            | nil => simp at cA
            | cons x r => exact ⟨x, r, rfl⟩
          have hx := hc x (List.mem_cons_self ..)
          refine ⟨_, rfl, mk (x :: r), 0, x, rfl, rfl, str_line (by omega), by rw [mk_toList]; exact atI_nat (j := 0) rfl, _, rfl, x, _, rfl, rfl, _, rfl, ?_⟩
          rw [let_sign x hx.2]
          cases hl1 : isLet x with
          | false => exact itT rfl (qn (by unfold isNm; rw [show (x :: r).headD 0 = x from rfl, hl1]; simp))
          | true =>
            refine itF rfl ⟨_, rfl, rfl, _, rfl, ?_⟩
            rw [e104, dec_str]
            by_cases ch : x :: r = HERE
            · rw [decide_eq_true ch]
              exact itT rfl (qn (by unfold isNm; rw [decide_eq_true ch]; simp))
            · rw [decide_eq_false ch]
              refine itF rfl (key _ _ ⟨rfl, rfl, ?_⟩)
              rw [decide_eq_true (show 1 ≤ (x :: r).length by omega), decide_eq_true (show (x :: r).length ≤ 8 by omega), show (x :: r).headD 0 = x from rfl, hl1, decide_eq_false ch]
              rfl
        · rw [decide_eq_false cB]
          exact itT rfl (qn (by unfold isNm; rw [decide_eq_false (show ¬ l.length ≤ 8 by omega)]; simp))
      · rw [decide_eq_false cA]
        exact iteF ⟨_, rfl, itT rfl (qn (by unfold isNm; rw [decide_eq_false (show ¬ 1 ≤ l.length by omega)]; simp))⟩
    rintro σ' G ⟨rfl, rfl, h1⟩
    dsimp only
    refine sqT ?_
    refine ⟨_, rfl, (by decide : -(2 ^ 62) ≤ (8 : Int)), (by decide : (8 : Int) < 2 ^ 62), fun R hR => ?_⟩
    rw [show ((8 : Int)).toNat = 8 from rfl]
    have nR : G R = none := hR
    refine lc_it walk_range (fun i G1 => Same G G1 ∧ G1 R = some (.lst (vTx (REGS.take i)))) ⟨Same.add hR, upd_same⟩ (fun _ _ _ _ => trivial) ?_ ?_
    · rintro i x G1 G' hi ⟨s1, r1⟩ ⟨eH, eX⟩
      have eX : x = .int ((i : Nat) : Int) := eX.trans (congrArg V.int (by omega))
      rw [eH, eX]
      refine ⟨rfl, _, rfl, i, rfl, small_lg (by omega), _, _, rfl, rfl, ?_, _, r1, lineT (by unfold vTx; rw [List.length_map, List.length_take]; omega), Same.mut s1 nR, ?_⟩
      · rw [← app_lenR, reg_text i hi, mk_len]
        exact Nat.le_of_lt (lineT (by
          have : ∀ j, j < 8 → (REGS.getD j []).length ≤ 2 := by decide
          have := this i hi
          omega))
      · rw [upd_same, reg_text i hi]
        unfold vTx
        have : REGS.take (i + 1) = REGS.take i ++ [REGS.getD i []] := by
          have : ∀ j, j < 8 → REGS.take (j + 1) = REGS.take j ++ [REGS.getD j []] := by decide
          exact this i hi
        rw [this, List.map_append]
        rfl
    rintro G1 ⟨s1, r1⟩
    dsimp only
    refine ⟨_, rfl, mk l, rfl, fun D hD => ?_⟩
    have nD : G1 D = none := hD
    refine lc_it walk_str (fun i G2 => Same G1 G2 ∧ G2 D = some (.lst (vTx (((l.take i).filter fun c => !(isLet c || isFig c)).map fun c => [c])))) ⟨Same.add hD, upd_same⟩ (fun _ _ _ _ => trivial) ?_ ?_
    · rintro i y G2 G' hi ⟨k1, k2⟩ ⟨rfl, c, hcz, rfl⟩
      have hlc : l[i]? = some c := by
        rw [← Array.getElem?_toList, mk_toList] at hcz
        exact hcz
      have c127 := hsig i c hlc
      have hil : i < l.length := (List.getElem?_eq_some_iff.mp hlc).1
      refine ⟨rfl, _, rfl, _, rfl, _, _, rfl, rfl, by decide +kernel, c, _, rfl, rfl, _, rfl, ?_⟩
      rw [let_figs c c127]
      cases hk : (isLet c || isFig c) with
      | true =>
        refine iteF ⟨k1, ?_⟩
        rw [k2, takeS hlc, List.filter_append, List.filter_cons, hk]
        simp
      | false =>
        refine iteT ⟨_, rfl, _, k2, lineT (by unfold vTx; rw [List.length_map, List.length_map]; have := List.length_filter_le (fun c => !(isLet c || isFig c)) (l.take i); rw [List.length_take] at this; omega), Same.mut k1 nD, ?_⟩
        rw [upd_same, takeS hlc, List.filter_append, List.filter_cons, hk]
        unfold vTx
        rw [List.map_append, List.map_append]
        rfl
    rintro G2 ⟨k1, k2⟩
    have hz : (mk l).cps.size = l.length := mk_len l
    rw [hz, List.take_length] at k2
    refine ⟨line5 (by simp), fun Z hZ => ?_⟩
    have s3 : Same G2 (upd G2 Z (.lst [])) := Same.add hZ
    have e3 : (upd G2 Z (.lst [])) Z = some (.lst []) := upd_same
    generalize upd G2 Z (.lst []) = G3 at s3 e3 ⊢
    have cl1 : ∀ x ∈ (l.filter fun c => !(isLet c || isFig c)).map fun c => [c], ClT x := fun x hx => by
      obtain ⟨c, hc1, rfl⟩ := List.mem_map.mp hx
      intro d hd
      rw [List.mem_singleton.mp hd]
      exact hc c (List.mem_filter.mp hc1).1
    refine ⟨_, _, .lst (SqL.of (s3 _ _ k2)) (strs_dp _), .lst (SqL.of e3) .nil, strs_shaped cl1, strs_shaped (ls := []) (fun x hx => (nomatch hx)), _, rfl, ?_⟩
    rw [strs_nil]
    have r3 := s3 _ _ (k1 _ _ r1)
    have s03 := Same.trans s1 (Same.trans k1 s3)
    have qz := q G3 s03
    have ea : isNm l = (!decide (l ∈ REGS) && l.all fun c => isLet c || isFig c) := by
      unfold isNm
      rw [h1, Bool.true_and]
    by_cases cf : (l.filter fun c => !(isLet c || isFig c)).map (fun c => [c]) = []
    · rw [decide_eq_true cf]
      have hall : (l.all fun c => isLet c || isFig c) = true := by
        rw [List.map_eq_nil_iff, List.filter_eq_nil_iff] at cf
        rw [List.all_eq_true]
        intro c hc1
        have := cf c hc1
        revert this
        cases isLet c <;> cases isFig c <;> simp
      rw [hall, Bool.and_true] at ea
      refine iteT ⟨_, rfl, _, rfl, R, _, rfl, .inl (SqL.of r3), rfl, flat_tx _, ?_⟩
      rw [if_pos rfl, in_texts]
      rw [ea] at qz
      exact qz
    · rw [decide_eq_false cf]
      have hall : (l.all fun c => isLet c || isFig c) = false := by
        rw [Bool.eq_false_iff]
        intro h
        refine cf ?_
        rw [List.map_eq_nil_iff, List.filter_eq_nil_iff]
        intro c hc1
        have := List.all_eq_true.mp h c hc1
        rw [this]
        simp
      rw [hall, Bool.and_false] at ea
      rw [ea] at qz
      exact iteF qz
abbrev KnLNm (P : Program) (w : World) (K : PySem.W.Frag) (mg : Str → Option Value) (base : Heap) : Prop := Kn P w K mg base CX0 1 "_law_is_name" ["_law_word"] [] spLNm
def spLNum : Sp := fun vs H Q _ => ∃ l : Tx, vs = [.str (mk l)] ∧ ClT l ∧ l.length ≤ 1000 ∧ ∀ H', Same H H' → Q (vNo (lawNum l)) H'
abbrev N__law_number_in : List Str := ["_law_word", "_law_small", "_law_letters", "_law_good", "_law_base", "_law_most", "_law_figures", "_law_sign", "_law_found"]
theorem sc__law_number_in : FnScope ["_law_word", "_law_small", "_law_letters", "_law_good", "_law_base", "_law_most", "_law_figures", "_law_sign", "_law_found"] ["_law_word"] (defScope s__law_number_in) := ⟨rfl, rfl, rfl, by decide +kernel, rfl, by decide +kernel, by decide +kernel⟩
theorem ok_lnum (F : FnP K "_law_number_in" s__law_number_in dvs f fd) (g_len : mg "len" = none) (g_int : mg "int" = none) : FnOk P w K mg base CX0 1 f fd ["_law_word"] spLNum := by
  refine F.ok sc__law_number_in (fun vs H Q E h => ?_) (fun cdv A outer s H vs Q E hr h => ?_)
  · obtain ⟨l, rfl, _⟩ := h
    rfl
  · obtain ⟨l, rfl, hc, hl, q⟩ := h
    refine ⟨_, PSs.nox (pss_cons (ps_set (i := 1) sc__law_number_in.nd rfl (Or.inl rfl) (pe_bm0 PySem.F.plainAttrs_str PySem.F.slot_str_lower PySem.F.type_str_lower mt_lower (pv 0)))
      (pss_cons (ps_set (i := 2) sc__law_number_in.nd rfl (Or.inl rfl) pe_str)
      (pss_cons (ps_if (pt_cmpR op_eq (pe_slice sl_str (pv 0) po_none (po_some pe_int)) pe_str (nomark _)) (pss_cons (ps_set (i := 3) sc__law_number_in.nd rfl (Or.inl rfl) (pe_and (pe_cmpR op_eq (pe_callB call_len rfl g_len boot_len (pa_cons (pv 0) pa_nil)) pe_int (nomark _)) (pe_one (pe_cmpR op_in_sign (pe_ix ix_str (pv 1) pe_int (fun _ _ => rfl)) (pv 2) rfl))))
      (pss_one (ps_ret (pe_ifExp (pt_val (pv 3)) (pe_op op_add (pe_bm PySem.F.plainAttrs_str PySem.F.slot_str_index PySem.F.type_str_index mt_sindex (pv 2) (pa_cons (pe_ix ix_str (pv 1) pe_int (fun _ _ => rfl)) pa_nil)) (pe_ix ix_list (pe_lst (pa_cons pe_int (pa_cons pe_int pa_nil))) (pe_callTy call_int1 rfl g_int (by decide +kernel) (pa_cons (pe_cmpR op_ne (pv 0) (pv 1) (nomark _)) pa_nil)) (fun _ _ => rfl))) pe_non)))) pss_nil)
      (pss_cons (ps_asg (pe_tup (pa_cons pe_int (pa_cons pe_int (pa_cons (pv 1) pa_nil)))) (pg_tup rfl (pgs_cons (pg_name (i := 4) sc__law_number_in.nd rfl (Or.inr rfl)) (pgs_cons (pg_name (i := 5) sc__law_number_in.nd rfl (Or.inl rfl)) (pgs_cons (pg_name (i := 6) sc__law_number_in.nd rfl (Or.inl rfl)) pgs_nil)))))
      (pss_cons (ps_if (pt_cmpR op_in_seq (pe_slice sl_str (pv 1) po_none (po_some pe_int)) (pe_tup (pa_cons pe_str (pa_cons pe_str pa_nil))) rfl) (pss_one (ps_asg (pe_tup (pa_cons (pe_ix ix_list (pe_lst (pa_cons pe_int (pa_cons pe_int pa_nil))) (pe_callTy call_int1 rfl g_int (by decide +kernel) (pa_cons (pe_cmpR op_eq (pe_ix ix_str (pv 1) pe_int (fun _ _ => rfl)) pe_str (nomark _)) pa_nil)) (fun _ _ => rfl)) (pa_cons (pe_ix ix_list (pe_lst (pa_cons pe_int (pa_cons pe_int pa_nil))) (pe_callTy call_int1 rfl g_int (by decide +kernel) (pa_cons (pe_cmpR op_eq (pe_ix ix_str (pv 1) pe_int (fun _ _ => rfl)) pe_str (nomark _)) pa_nil)) (fun _ _ => rfl)) (pa_cons (pe_slice sl_str (pv 1) (po_some pe_int) po_none) pa_nil)))) (pg_tup rfl (pgs_cons (pg_name (i := 4) sc__law_number_in.nd rfl (Or.inr rfl)) (pgs_cons (pg_name (i := 5) sc__law_number_in.nd rfl (Or.inl rfl)) (pgs_cons (pg_name (i := 6) sc__law_number_in.nd rfl (Or.inl rfl)) pgs_nil)))))) pss_nil)
      (pss_cons (ps_if (PW.pt (pw_or (pt_not (pt_chain op_le op_le pe_int (pe_callB call_len rfl g_len boot_len (pa_cons (pv 6) pa_nil)) (pv 5))) (pw_or1 (pt_cmpR (op_neD hr.units) (pe_lc (own := [("_law_sign", 7)]) (g := gName 7) rfl sc__law_number_in.nd (pi_str (pv 6)) (blkOk_by (own := [("_law_sign", 7)]) (N := N__law_number_in) (sc := defScope s__law_number_in) (by decide +kernel)) (fun _ _ _ _ _ => (pg_name (i := 7) sc__law_number_in.nd rfl (Or.inl rfl))) (fun _ _ _ _ _ => (pts_one (pt_cmpR op_notIn_sign (pv 7) (pe_slice (show SlR _ (rSlS) from sl_str) pe_str po_none (po_some (pv 4))) rfl))) (fun _ _ _ _ _ => (pv 7))) (pe_lst pa_nil) (nomark _))))) (pss_one (ps_ret pe_non)) pss_nil)
      (pss_cons (ps_set (i := 8) sc__law_number_in.nd rfl (Or.inl rfl) pe_int)
      (pss_cons (ps_for PassesOwn.never rfl (pi_str (pv 6)) (pg_name (i := 7) sc__law_number_in.nd rfl (Or.inl rfl))
      (pss_one (ps_set (i := 8) sc__law_number_in.nd rfl (Or.inl rfl) (pe_op op_add (pe_op op_mul (pv 8) (pv 4)) (pe_bm PySem.F.plainAttrs_str PySem.F.slot_str_index PySem.F.type_str_index mt_sindex pe_str (pa_cons (pv 7) pa_nil))))))
      (pss_one (ps_ret (pv 8))))))))))), ?_⟩
    have lsm : (lowT l).length = l.length := List.length_map ..
    have csm : ClT (lowT l) := fun c hc1 => by
      obtain ⟨x, hx, rfl⟩ := List.mem_map.mp hc1
      exact low1_cl (hc x hx)
    have q0 := q H (Same.refl _)
    refine sqT ?_
    refine ⟨_, rfl, rfl, mk l, rfl, rfl, by rw [mk_len]; omega, ?_⟩
    rw [lower_mk hc]
    dsimp only [gName, List.set]
    refine sqT (asgC (x := V.str "abcdefghijklmnopqrstuvwxyz") ?_)
    dsimp only [gName, List.set]
    refine sqT ?_
    refine ifJ (fun σ' G => σ' = [some (.str (mk l)), some (.str (mk (lowT l))), some (.str "abcdefghijklmnopqrstuvwxyz"), none, none, none, none, none, none] ∧ G = H ∧ startsT [39] l = false) ?_ (fun key => ?_)
    rotate_left
    · refine ⟨_, rfl, ?_⟩
      unfold tNoPart
      refine ⟨_, rfl, mk l, rfl, str_line (by omega), ?_⟩
      rw [cut_to1]
      refine ⟨rfl, _, rfl, ?_⟩
      have e39 : ("'" : Str) = mk [39] := rfl
      rw [e39, dec_str]
      unfold lawNum at q0
      have es : decide (l.take 1 = [39]) = startsT [39] l := by
        unfold startsT
        by_cases h : l.take 1 = [39]
        · rw [decide_eq_true h]
          show true = (l.take 1 == [39])
          rw [h]
          rfl
        · rw [decide_eq_false h]
          exact (beq_false_of_ne h).symm
      rw [es]
      cases h39 : startsT [39] l with
      | false => exact itF rfl (key _ _ ⟨rfl, rfl, h39⟩)
      | true =>
        rw [if_pos h39] at q0
        obtain ⟨r, rfl⟩ : ∃ r, l = 39 :: r := by
          rw [h39] at es
          have := of_decide_eq_true es
          cases l with
          | nil => cases this
          | cons x r => exact ⟨r, by rw [(List.cons.inj this).1]⟩
        refine itT rfl (sqT ?_)
        have lr : (lowT (39 :: r)) = 39 :: lowT r := rfl
        rw [lr]
        have len_ : LenV K (.str (mk (39 :: r))) H (39 :: r).length := ⟨str_line (by omega), (mk_len _).symm⟩
        by_cases c2 : r.length = 1
        · obtain ⟨x, rfl⟩ := List.length_eq_one_iff.mp c2
          have hx := hc x (by simp)
          have hlx : low1 x < 127 := (low1_cl hx).2
          refine ⟨_, rfl, _, _, rfl, len_, rfl, _, rfl, itT rfl ?_⟩
          have at1 : atI ((mk (39 :: lowT [x])).cps.toList) 1 = some (low1 x) := by rw [mk_toList]; exact atI_nat (j := 1) rfl
          refine ⟨_, rfl, mk (39 :: lowT [x]), 1, low1 x, rfl, rfl, str_line (show 2 ≤ 50000 by decide), at1, _, rfl, low1 x, _, rfl, rfl, ?_⟩
          rw [let_sign (low1 x) hlx]
          have hs : signN [x] = if isLet (low1 x) = true then some x else none := rfl
          rw [show (39 :: [x]).drop 1 = [x] from rfl, hs] at q0
          cases hlet : isLet (low1 x) with
          | false =>
            rw [if_neg (by rw [hlet]; exact Bool.false_ne_true)] at q0
            exact ⟨_, rfl, _, rfl, iteF q0⟩
          | true =>
            rw [if_pos hlet] at q0
            obtain ⟨rest, hocc⟩ := head_cons (occ_let (low1 x) hlx hlet)
            refine ⟨_, rfl, _, rfl, iteT ?_⟩
            refine ⟨_, rfl, rfl, _, rfl, mk (39 :: lowT [x]), 1, low1 x, rfl, rfl, str_line (show 2 ≤ 50000 by decide), at1, _, mk [low1 x], _, rest, rfl, rfl, hocc, line5 (by simp), fun L hL => ?_⟩
            have s1 : Same H (upd H L (.lst [V.int 97, V.int 65])) := Same.add hL
            have e1 : (upd H L (.lst [V.int 97, V.int 65])) L = some (.lst [V.int 97, V.int 65]) := upd_same
            generalize upd H L (.lst [V.int 97, V.int 65]) = H1 at s1 e1 ⊢
            refine ⟨_, rfl, _, rfl, rfl, .inr ⟨_, rfl, L, _, _, .int ((if low1 x = x then 97 else 65 : Nat) : Int), rfl, rfl, SqL.of e1, ?_, _, _, rfl, rfl, ?_⟩⟩
            · rw [dec_str]
              by_cases hx2 : low1 x = x
              · have : [39, x] = 39 :: lowT [x] := by
                  show [39, x] = [39, low1 x]
                  rw [hx2]
                rw [if_pos hx2, decide_eq_true this]
                rfl
              · have : ¬ [39, x] = 39 :: lowT [x] := fun z => hx2 (List.cons.inj (List.cons.inj z).2).1.symm
                rw [if_neg hx2, decide_eq_false this]
                rfl
            · have qx := q H1 s1
              unfold lawNum at qx
              rw [if_pos h39, show (39 :: [x]).drop 1 = [x] from rfl, hs, if_pos hlet] at qx
              have e := let_back x hx.2 hlet
              have e2 : ((low1 x - 97 : Nat) : Int) + ((if low1 x = x then 97 else 65 : Nat) : Int) = (x : Nat) := by omega
              show Q (.int (((low1 x - 97 : Nat) : Int) + ((if low1 x = x then 97 else 65 : Nat) : Int))) H1
              rw [e2]
              exact qx
        · refine ⟨_, rfl, _, _, rfl, len_, rfl, _, rfl, itF (decide_eq_false fun z => c2 (by have := V.int.inj z; simp only [List.length_cons] at this; omega)) ?_⟩
          have hs : signN r = none := by
            cases r with
            | nil => rfl
            | cons a t =>
              cases t with
              | nil => exact absurd rfl c2
              | cons b t => rfl
          rw [show (39 :: r).drop 1 = r from rfl, hs] at q0
          exact ⟨_, rfl, _, rfl, iteF q0⟩
    rintro σ' G ⟨rfl, rfl, h1⟩
    dsimp only
    refine sqT ?_
    rw [← start_low] at h1
    unfold lawNum at q q0
    rw [start_low] at h1
    rw [if_neg (by rw [h1]; exact Bool.false_ne_true)] at q q0
    rw [← start_low] at h1
    generalize lowT l = sm at csm lsm q q0 h1
    refine ⟨_, rfl, line5 (by simp), fun T hT => ?_⟩
    have s1 : Same G (upd G T (.tup [V.int 10, V.int 5, V.str (mk sm)])) := Same.add hT
    have e1 : (upd G T (.tup [V.int 10, V.int 5, V.str (mk sm)])) T = some (.tup [V.int 10, V.int 5, V.str (mk sm)]) := upd_same
    generalize upd G T (.tup [V.int 10, V.int 5, V.str (mk sm)]) = G1 at s1 e1 ⊢
    refine ⟨T, _, rfl, SqT.of e1, rfl, _, _, rfl, _, _, rfl, _, _, rfl, rfl, ?_⟩
    dsimp only [gName, List.set]
    refine sqT ?_
    refine ifJ (fun σ' G2 => ∃ (b m : Nat) (fg : Tx), σ' = [some (.str (mk l)), some (.str (mk sm)), some (.str "abcdefghijklmnopqrstuvwxyz"), none, some (.int (b : Nat)), some (.int (m : Nat)), some (.str (mk fg)), none, none] ∧ Same G G2 ∧ (b = 2 ∧ m = 16 ∨ b = 10 ∧ m = 5 ∨ b = 16 ∧ m = 4) ∧ ClT fg ∧ fg.length ≤ 1000 ∧ numT sm = figured fg b m) ?_ (fun key => ?_)
    rotate_left
    · refine ⟨_, rfl, ?_⟩
      unfold tNoPart
      refine ⟨_, rfl, mk sm, rfl, str_line (by omega), line5 (by simp), fun U hU => ?_⟩
      have s2 : Same G1 (upd G1 U (.tup [V.str "0x", V.str "0b"])) := Same.add hU
      have e2 : (upd G1 U (.tup [V.str "0x", V.str "0b"])) U = some (.tup [V.str "0x", V.str "0b"]) := upd_same
      generalize upd G1 U (.tup [V.str "0x", V.str "0b"]) = G2 at s2 e2 ⊢
      have evt : [V.str "0x", V.str "0b"] = vTx [[48, 120], [48, 98]] := rfl
      refine ⟨U, _, rfl, .inr (SqT.of e2), rfl, rfl, _, rfl, ?_⟩
      rw [if_neg Bool.false_ne_true, evt, cut_to2, in_texts]
      have s02 := Same.trans s1 s2
      have d2 : ClT (sm.drop 2) ∧ (sm.drop 2).length ≤ 1000 := ⟨csm.sub fun c h => List.mem_of_mem_drop h, by rw [List.length_drop]; omega⟩
      by_cases c : sm.take 2 ∈ ([[48, 120], [48, 98]] : List Tx)
      · rw [decide_eq_true c]
        obtain ⟨x, r, rfl, hx⟩ : ∃ x r, sm = 48 :: x :: r ∧ (x = 120 ∨ x = 98) := by
          cases sm with
          | nil => simp at c
          | cons a t =>
            cases t with
            | nil => simp at c
            | cons x r =>
              simp at c
              rcases c with ⟨rfl, rfl⟩ | ⟨rfl, rfl⟩
              · exact ⟨_, _, rfl, .inl rfl⟩
              · exact ⟨_, _, rfl, .inr rfl⟩
        have at1 : atI ((mk (48 :: x :: r)).cps.toList) 1 = some x := by rw [mk_toList]; exact atI_nat (j := 1) rfl
        have hbq : ("b" : Str) = mk [98] := rfl
        rcases hx with rfl | rfl
        · refine itT rfl ⟨line5 (by simp), fun L1 hL1 => ?_⟩
          have s3 : Same G2 (upd G2 L1 (.lst [V.int 16, V.int 2])) := Same.add hL1
          have e3 : (upd G2 L1 (.lst [V.int 16, V.int 2])) L1 = some (.lst [V.int 16, V.int 2]) := upd_same
          generalize upd G2 L1 (.lst [V.int 16, V.int 2]) = G3 at s3 e3 ⊢
          refine ⟨_, rfl, _, _, _, rfl, rfl, str_line (by omega), at1, rfl, .inr ⟨_, rfl, L1, _, _, V.int 16, rfl, rfl, SqL.of e3, by rw [hbq]; exact atI_nat (j := 0) rfl, line5 (by simp), fun L2 hL2 => ?_⟩⟩
          have s4 : Same G3 (upd G3 L2 (.lst [V.int 4, V.int 16])) := Same.add hL2
          have e4 : (upd G3 L2 (.lst [V.int 4, V.int 16])) L2 = some (.lst [V.int 4, V.int 16]) := upd_same
          generalize upd G3 L2 (.lst [V.int 4, V.int 16]) = G4 at s4 e4 ⊢
          refine ⟨_, rfl, _, _, _, rfl, rfl, str_line (by omega), at1, rfl, .inr ⟨_, rfl, L2, _, _, V.int 4, rfl, rfl, SqL.of e4, by rw [hbq]; exact atI_nat (j := 0) rfl, _, rfl, _, rfl, mk (48 :: 120 :: r), rfl, str_line (by omega), line5 (by simp), fun T2 hT2 => ?_⟩⟩
          rw [cut_from2]
          have s5 : Same G4 (upd G4 T2 (.tup [V.int 16, V.int 4, V.str (mk ((48 :: 120 :: r).drop 2))])) := Same.add hT2
          have e5 : (upd G4 T2 (.tup [V.int 16, V.int 4, V.str (mk ((48 :: 120 :: r).drop 2))])) T2 = some (.tup [V.int 16, V.int 4, V.str (mk ((48 :: 120 :: r).drop 2))]) := upd_same
          generalize upd G4 T2 (.tup [V.int 16, V.int 4, V.str (mk ((48 :: 120 :: r).drop 2))]) = G5 at s5 e5 ⊢
          refine ⟨T2, _, rfl, SqT.of e5, rfl, _, _, rfl, _, _, rfl, _, _, rfl, rfl, key _ _ ⟨16, 4, (48 :: 120 :: r).drop 2, rfl, Same.trans s02 (Same.trans s3 (Same.trans s4 s5)), .inr (.inr ⟨rfl, rfl⟩), d2.1, d2.2, ?_⟩⟩
          unfold numT
          rw [h1]
          rfl
        · refine itT rfl ⟨line5 (by simp), fun L1 hL1 => ?_⟩
          have s3 : Same G2 (upd G2 L1 (.lst [V.int 16, V.int 2])) := Same.add hL1
          have e3 : (upd G2 L1 (.lst [V.int 16, V.int 2])) L1 = some (.lst [V.int 16, V.int 2]) := upd_same
          generalize upd G2 L1 (.lst [V.int 16, V.int 2]) = G3 at s3 e3 ⊢
          refine ⟨_, rfl, _, _, _, rfl, rfl, str_line (by omega), at1, rfl, .inr ⟨_, rfl, L1, _, _, V.int 2, rfl, rfl, SqL.of e3, by rw [hbq]; exact atI_nat (j := 1) rfl, line5 (by simp), fun L2 hL2 => ?_⟩⟩
          have s4 : Same G3 (upd G3 L2 (.lst [V.int 4, V.int 16])) := Same.add hL2
          have e4 : (upd G3 L2 (.lst [V.int 4, V.int 16])) L2 = some (.lst [V.int 4, V.int 16]) := upd_same
          generalize upd G3 L2 (.lst [V.int 4, V.int 16]) = G4 at s4 e4 ⊢
          refine ⟨_, rfl, _, _, _, rfl, rfl, str_line (by omega), at1, rfl, .inr ⟨_, rfl, L2, _, _, V.int 16, rfl, rfl, SqL.of e4, by rw [hbq]; exact atI_nat (j := 1) rfl, _, rfl, _, rfl, mk (48 :: 98 :: r), rfl, str_line (by omega), line5 (by simp), fun T2 hT2 => ?_⟩⟩
          rw [cut_from2]
          have s5 : Same G4 (upd G4 T2 (.tup [V.int 2, V.int 16, V.str (mk ((48 :: 98 :: r).drop 2))])) := Same.add hT2
          have e5 : (upd G4 T2 (.tup [V.int 2, V.int 16, V.str (mk ((48 :: 98 :: r).drop 2))])) T2 = some (.tup [V.int 2, V.int 16, V.str (mk ((48 :: 98 :: r).drop 2))]) := upd_same
          generalize upd G4 T2 (.tup [V.int 2, V.int 16, V.str (mk ((48 :: 98 :: r).drop 2))]) = G5 at s5 e5 ⊢
          refine ⟨T2, _, rfl, SqT.of e5, rfl, _, _, rfl, _, _, rfl, _, _, rfl, rfl, key _ _ ⟨2, 16, (48 :: 98 :: r).drop 2, rfl, Same.trans s02 (Same.trans s3 (Same.trans s4 s5)), .inl ⟨rfl, rfl⟩, d2.1, d2.2, ?_⟩⟩
          unfold numT
          rw [h1]
          rfl
      · rw [decide_eq_false c]
        refine itF rfl (key _ _ ⟨10, 5, sm, rfl, s02, .inr (.inl ⟨rfl, rfl⟩), csm, by omega, ?_⟩)
        unfold numT
        have n1 : startsT [48, 120] sm = false := beq_false_of_ne fun z => c (by rw [show sm.take 2 = [48, 120] from z]; simp)
        have n2 : startsT [48, 98] sm = false := beq_false_of_ne fun z => c (by rw [show sm.take 2 = [48, 98] from z]; simp)
        rw [h1, n1, n2]
        rfl
    rintro σ' G2 ⟨b, m, fg, rfl, s2, hbm, cfg, lfg, hnum⟩
    rw [hnum] at q q0
    dsimp only
    refine sqT ?_
    have qn : figured fg b m = none → ∀ G3, Same G2 G3 → Q .non G3 := fun h G3 s3 => by
      have := q G3 (Same.trans s2 s3)
      rwa [h] at this
    have hb : b = 2 ∨ b = 10 ∨ b = 16 := by omega
    have e16 : ("0123456789abcdef" : Str) = mk (sg "0123456789abcdef") := (mk_sg _).symm
    have hlf : (mk fg).cps.size = fg.length := mk_len fg
    have fsig : ∀ i c, (mk fg).cps[i]? = some c → fg[i]? = some c ∧ c < 127 := fun i c h => by
      rw [← Array.getElem?_toList, mk_toList] at h
      exact ⟨h, (cfg c (List.mem_of_getElem? h)).2⟩
    refine ifJ (fun σ' G3 => σ' = [some (.str (mk l)), some (.str (mk sm)), some (.str "abcdefghijklmnopqrstuvwxyz"), none, some (.int (b : Nat)), some (.int (m : Nat)), some (.str (mk fg)), none, none] ∧ Same G2 G3 ∧ 1 ≤ fg.length ∧ fg.length ≤ m ∧ fg.all (isFigB b) = true) ?_ (fun key => ?_)
    rotate_left
    · refine ⟨_, rfl, _, _, rfl, ⟨str_line (by omega), rfl⟩, _, _, rfl, rfl, _, rfl, ?_⟩
      rw [mk_len]
      by_cases cA : (1 : Int) ≤ (fg.length : Int)
      · rw [decide_eq_true cA]
        refine iteT ⟨_, rfl, _, _, rfl, rfl, _, rfl, ?_⟩
        by_cases cB : (fg.length : Int) ≤ (m : Int)
        · rw [decide_eq_true cB]
          refine itF rfl ?_
          refine ⟨_, rfl, mk fg, rfl, fun D hD => ?_⟩
          have nD : G2 D = none := hD
          refine lc_it walk_str (fun i G3 => Same G2 G3 ∧ G3 D = some (.lst (vTx (((fg.take i).filter fun c => !isFigB b c).map fun c => [c])))) ⟨Same.add hD, upd_same⟩ (fun _ _ _ _ => trivial) ?_ ?_
          · rintro i y G3 G' hi ⟨k1, k2⟩ ⟨rfl, c, hcz, rfl⟩
            obtain ⟨hlc, c127⟩ := fsig i c hcz
            have hil : i < fg.length := (List.getElem?_eq_some_iff.mp hlc).1
            refine ⟨rfl, _, rfl, ?_⟩
            rw [e16]
            refine ⟨_, rfl, _, rfl, mk (sg "0123456789abcdef"), rfl, by decide +kernel, ?_⟩
            rw [cutS_to]
            refine ⟨c, _, rfl, rfl, _, rfl, ?_⟩
            rw [mk_toList, known_sign hb c c127]
            cases hk : isFigB b c with
            | true =>
              refine iteF ⟨k1, ?_⟩
              rw [k2, takeS hlc, List.filter_append, List.filter_cons, hk]
              simp
            | false =>
              refine iteT ⟨_, rfl, _, k2, lineT (by unfold vTx; rw [List.length_map, List.length_map]; have := List.length_filter_le (fun c => !isFigB b c) (fg.take i); rw [List.length_take] at this; omega), Same.mut k1 nD, ?_⟩
              rw [upd_same, takeS hlc, List.filter_append, List.filter_cons, hk]
              unfold vTx
              rw [List.map_append, List.map_append]
              rfl
          rintro G3 ⟨k1, k2⟩
          rw [hlf, List.take_length] at k2
          refine ⟨line5 (by simp), fun Z hZ => ?_⟩
          have s4 : Same G3 (upd G3 Z (.lst [])) := Same.add hZ
          have e4 : (upd G3 Z (.lst [])) Z = some (.lst []) := upd_same
          generalize upd G3 Z (.lst []) = G4 at s4 e4 ⊢
          have cl1 : ∀ x ∈ (fg.filter fun c => !isFigB b c).map fun c => [c], ClT x := fun x hx => by
            obtain ⟨c, hc1, rfl⟩ := List.mem_map.mp hx
            intro d hd
            rw [List.mem_singleton.mp hd]
            exact cfg c (List.mem_filter.mp hc1).1
          refine ⟨_, _, .lst (SqL.of (s4 _ _ k2)) (strs_dp _), .lst (SqL.of e4) .nil, strs_shaped cl1, strs_shaped (ls := []) (fun x hx => (nomatch hx)), _, rfl, ?_⟩
          rw [strs_nil]
          have s24 := Same.trans k1 s4
          by_cases cf : (fg.filter fun c => !isFigB b c).map (fun c => [c]) = []
          · rw [decide_eq_true cf]
            refine itF rfl (key _ _ ⟨rfl, s24, by omega, by omega, ?_⟩)
            rw [List.map_eq_nil_iff, List.filter_eq_nil_iff] at cf
            rw [List.all_eq_true]
            intro c hc1
            have := cf c hc1
            simpa using this
          · rw [decide_eq_false cf]
            refine itT rfl (qn (if_neg fun h => cf ?_) _ s24)
            rw [List.map_eq_nil_iff, List.filter_eq_nil_iff]
            intro c hc1
            have := List.all_eq_true.mp h.2.2 c hc1
            rw [this]
            simp
        · rw [decide_eq_false cB]
          exact itT rfl (qn (if_neg fun h => cB (by omega)) _ (Same.refl _))
      · rw [decide_eq_false cA]
        exact iteF ⟨_, rfl, itT rfl (qn (if_neg fun h => cA (by omega)) _ (Same.refl _))⟩
    rintro σ' G3 ⟨rfl, s3, f1, f2, f3⟩
    dsimp only
    refine sqT (asgC (x := V.int 0) ?_)
    dsimp only [gName, List.set]
    refine sqT ?_
    refine ⟨_, rfl, mk fg, rfl, for_it walk_str (fun i σ G => ∃ v7 : Option V, σ = [some (.str (mk l)), some (.str (mk sm)), some (.str "abcdefghijklmnopqrstuvwxyz"), none, some (.int (b : Nat)), some (.int (m : Nat)), some (.str (mk fg)), v7, some (.int (figN b (fg.take i) : Nat))] ∧ Same G3 G) ⟨none, rfl, Same.refl _⟩ (fun _ _ _ _ _ => trivial) ?_ ?_⟩
    · rintro i y σ G G' hi ⟨v7, rfl, k1⟩ ⟨rfl, c, hcz, rfl⟩
      obtain ⟨hlc, c127⟩ := fsig i c hcz
      have hcf := List.all_eq_true.mp f3 c (List.mem_of_getElem? hlc)
      have h16 : isFigB 16 c = true := by
        unfold isFigB at hcf ⊢
        rw [Bool.and_eq_true] at hcf ⊢
        exact ⟨hcf.1, decide_eq_true (by have := of_decide_eq_true hcf.2; omega)⟩
      obtain ⟨rest, hocc⟩ := head_cons (occ_fig c c127 h16)
      have hall : (fg.take i).all (isFigB b) = true := List.all_eq_true.mpr fun x hx => List.all_eq_true.mp f3 x (List.mem_of_mem_take hx)
      have hlt := figN_lt (b := b) (fg.take i) 0 0 hall (by rw [Nat.pow_zero]; exact Nat.one_pos)
      rw [Nat.zero_add] at hlt
      have hlt : figN b (fg.take i) < b ^ (fg.take i).length := hlt
      have hpow : b ^ (fg.take i).length ≤ 100000 := by
        have h1 : (fg.take i).length ≤ m := by rw [List.length_take]; omega
        have h2 : b ^ (fg.take i).length ≤ b ^ m := Nat.pow_le_pow_right (by omega) h1
        rcases hbm with ⟨rfl, rfl⟩ | ⟨rfl, rfl⟩ | ⟨rfl, rfl⟩
        · exact Nat.le_trans h2 (by decide)
        · exact Nat.le_trans h2 (by decide)
        · exact Nat.le_trans h2 (by decide)
      refine ⟨_, rfl, _, rfl, _, _, rfl, rfl, .inl ⟨by omega, by omega⟩, rfl, _, rfl, _, _, _, rest, rfl, rfl, hocc, _, _, rfl, rfl, some (.str (mk [c])), ?_, k1⟩
      rw [takeS hlc]
      unfold figN
      rw [List.foldl_append]
      show _ = [_, _, _, _, _, _, _, _, some (V.int (((fg.take i).foldl (fun n c => n * b + figV c) 0 * b + figV c : Nat) : Int))]
      rw [Int.natCast_add, Int.natCast_mul]
      rfl
    · rintro σ G ⟨v7, rfl, k1⟩
      rw [hlf, List.take_length]
      have qz := q G (Same.trans s2 (Same.trans s3 k1))
      unfold figured at qz
      rw [if_pos ⟨f1, f2, f3⟩] at qz
      exact ⟨_, rfl, qz⟩
abbrev KnLNum (P : Program) (w : World) (K : PySem.W.Frag) (mg : Str → Option Value) (base : Heap) : Prop := Kn P w K mg base CX0 1 "_law_number_in" ["_law_word"] [] spLNum
end
end Bm
set_option maxHeartbeats 1000000
namespace Bm
open PySem PySem.Spec PyProof.Rows L2
def badHead (l : Tx) : Bool := isSg (l.headD 0) && !decide (l.headD 0 = 45)
theorem mk_app (a b : Tx) : mk a ++ mk b = mk (a ++ b) := by
  show (⟨a.toArray ++ b.toArray⟩ : Str) = ⟨(a ++ b).toArray⟩
  exact congrArg Str.mk (by simp)
theorem PcsAt.snoc {K : PySem.W.Frag} {H : Hp} {T : Addr} {vs : List V} {ps : List (Nat × Tx)} {p : Nat × Tx} (h : PcsAt K H vs ps) (hT : SqT K H T [.str (mk [p.1]), .str (mk p.2)]) : PcsAt K H (vs ++ [.ref T]) (ps ++ [p]) := by
  obtain ⟨h1, h2⟩ := h
  refine ⟨by rw [List.length_append, List.length_append, h1]; rfl, fun i v q hv hq => ?_⟩
  by_cases c : i < vs.length
  · rw [List.getElem?_append_left c] at hv
    rw [List.getElem?_append_left (by omega)] at hq
    exact h2 i v q hv hq
  · have hi : i = vs.length := by
      have := (List.getElem?_eq_some_iff.mp hv).1
      rw [List.length_append] at this
      simp only [List.length_cons, List.length_nil] at this
      omega
    subst hi
    rw [List.getElem?_append_right (Nat.le_refl _), Nat.sub_self] at hv
    rw [h1, List.getElem?_append_right (Nat.le_refl _), Nat.sub_self] at hq
    obtain rfl := Option.some.inj hv
    obtain rfl := Option.some.inj hq
    exact ⟨T, rfl, hT⟩
section
variable {P : Program} {w : World} {K : PySem.W.Frag} {mg : Str → Option Value} {base : Heap} {f : Addr} {fd : FuncData} {dvs : List V}
def spLPc (K : PySem.W.Frag) : Sp := fun vs H Q _ => ∃ l : Tx, vs = [.str (mk l)] ∧ ClT l ∧ l.length ≤ 1000 ∧ (badHead l = true → ∀ H', Same H H' → Q .non H') ∧ (badHead l = false → ∀ D ps H', Same H H' → H D = none → H' D = some (.lst ps) → PcsAt K H' ps (piecesT l) → Q (.ref D) H')
abbrev N__law_pieces : List Str := ["_law_text", "_law_found", "_law_sign", "_law_word", "_law_k"]
theorem sc__law_pieces : FnScope ["_law_text", "_law_found", "_law_sign", "_law_word", "_law_k"] ["_law_text"] (defScope s__law_pieces) := ⟨rfl, rfl, rfl, by decide +kernel, rfl, by decide +kernel, by decide +kernel⟩
theorem ok_lpc (F : FnP K "_law_pieces" s__law_pieces dvs f fd) (g_len : mg "len" = none) (g_range : mg "range" = none) (g_int : mg "int" = none) : FnOk P w K mg base CX0 1 f fd ["_law_text"] (spLPc K) := by
  refine F.ok sc__law_pieces (fun vs H Q E h => ?_) (fun cdv A outer s H vs Q E hr h => ?_)
  · obtain ⟨l, rfl, _⟩ := h
    rfl
  · obtain ⟨l, rfl, hc, hl, qn, qy⟩ := h
    refine ⟨_, PSs.nox (pss_cons (ps_set (i := 1) sc__law_pieces.nd rfl (Or.inl rfl) (pe_lst pa_nil))
      (pss_cons (ps_asg (pe_tup (pa_cons pe_str (pa_cons pe_str pa_nil))) (pg_tup rfl (pgs_cons (pg_name (i := 2) sc__law_pieces.nd rfl (Or.inl rfl)) (pgs_cons (pg_name (i := 3) sc__law_pieces.nd rfl (Or.inl rfl)) pgs_nil))))
      (pss_cons (ps_for PassesOwn.never rfl (pi_range1 rfl g_range (pa_cons (pe_callB call_len rfl g_len boot_len (pa_cons (pv 0) pa_nil)) pa_nil)) (pg_name (i := 4) sc__law_pieces.nd rfl (Or.inl rfl))
      (pss_one (ps_if (pt_cmpR op_notIn_sign (pe_ix ix_str (pv 0) (pv 4) (fun _ _ => rfl)) pe_str rfl) (pss_one (ps_set (i := 3) sc__law_pieces.nd rfl (Or.inl rfl) (pe_op op_add_str (pv 3) (pe_ix ix_str (pv 0) (pv 4) (fun _ _ => rfl))))) (pss_cons (ps_if (PW.pt (pw_and (pt_cmpR op_eq (pv 4) pe_int (nomark _)) (pw_and1 (pt_cmpR op_ne (pe_ix ix_str (pv 0) (pv 4) (fun _ _ => rfl)) pe_str (nomark _))))) (pss_one (ps_ret pe_non)) pss_nil)
      (pss_cons (ps_set (i := 1) sc__law_pieces.nd rfl (Or.inl rfl) (pe_op op_cat (pv 1) (pe_op op_rep (pe_lst (pa_cons (pe_tup (pa_cons (pv 2) (pa_cons (pe_bm0 PySem.F.plainAttrs_str PySem.F.slot_str_strip PySem.F.type_str_strip mt_strip (pv 3)) pa_nil))) pa_nil)) (pe_callTy call_int1 rfl g_int (by decide +kernel) (pa_cons (pe_cmpR op_gt (pv 4) pe_int (nomark _)) pa_nil)))))
      (pss_one (ps_par (i := 2) (j := 3) rfl sc__law_pieces.nd rfl rfl (by decide) rfl rfl (pa_cons (pe_ix ix_str (pv 0) (pv 4) (fun _ _ => rfl)) (pa_cons pe_str pa_nil)) rfl)))))))
      (pss_one (ps_ret (pe_op op_cat (pv 1) (pe_lst (pa_cons (pe_tup (pa_cons (pv 2) (pa_cons (pe_bm0 PySem.F.plainAttrs_str PySem.F.slot_str_strip PySem.F.type_str_strip mt_strip (pv 3)) pa_nil))) pa_nil)))))))), ?_⟩
    have lpl : (mk l).length = l.length := mk_len l
    refine sqT ?_
    refine ⟨line5 (by simp), fun D hD => ?_⟩
    have nD0 : H D = none := hD
    have s1 : Same H (upd H D (.lst [])) := Same.add hD
    have e1 : (upd H D (.lst [])) D = some (.lst []) := upd_same
    generalize upd H D (.lst []) = H1 at s1 e1 ⊢
    dsimp only [gName, List.set]
    refine sqT ?_
    refine ⟨line5 (by simp), fun T0 hT0 => ?_⟩
    have nT0 : H1 T0 = none := hT0
    have s2 : Same H1 (upd H1 T0 (.tup [V.str "+", V.str ""])) := Same.add hT0
    have e2 : (upd H1 T0 (.tup [V.str "+", V.str ""])) T0 = some (.tup [V.str "+", V.str ""]) := upd_same
    generalize upd H1 T0 (.tup [V.str "+", V.str ""]) = H2 at s2 e2 ⊢
    refine ⟨T0, _, rfl, SqT.of e2, rfl, _, _, rfl, _, _, rfl, rfl, ?_⟩
    dsimp only [gName, List.set]
    refine sqT ?_
    have hD2 := s2 _ _ e1
    have len_ : LenV K (.str (mk l)) H2 l.length := ⟨str_line (by omega), (mk_len _).symm⟩
    refine ⟨_, rfl, _, _, rfl, ⟨str_line (by omega), rfl⟩, _, rfl, by rw [lpl]; omega, by rw [lpl]; omega, ?_⟩
    rw [show (((mk l).length : Nat) : Int).toNat = l.length from (Int.toNat_natCast _).trans lpl]
    refine for_it walk_range (fun k σ G => ∃ (s : Nat) (acc : Tx) (done : List (Nat × Tx)) (F : Addr) (ps : List V) (v4 : Option V), σ = [some (.str (mk l)), some (.ref F), some (.str (mk [s])), some (.str (mk acc)), v4] ∧ Same H G ∧ H F = none ∧ G F = some (.lst ps) ∧ PcsAt K G ps done ∧ acc.length ≤ k ∧ done.length ≤ k ∧ (∀ c ∈ acc, c ∈ l) ∧
        ((k = 0 ∧ s = 43 ∧ acc = [] ∧ done = []) ∨ (0 < k ∧ badHead l = false ∧ piecesT l = done ++ piecesG s acc (l.drop k))))
      ⟨43, [], [], D, [], none, rfl, Same.trans s1 s2, nD0, hD2, ⟨rfl, fun i v p hv => (nomatch hv)⟩, Nat.le_refl _, Nat.le_refl _, fun c hc => (nomatch hc), .inl ⟨rfl, rfl, rfl, rfl⟩⟩ (fun _ _ _ _ _ => trivial) ?_ ?_
    · rintro k x σ G G' hk ⟨s, acc, done, F, ps, v4, rfl, sG, nF, hF, hP, la, ld, cacc, hinv⟩ ⟨eH, eX⟩
      have eX : x = .int ((k : Nat) : Int) := eX.trans (congrArg V.int (by omega))
      rw [eH, eX]
      obtain ⟨c, hc1⟩ : ∃ c, l[k]? = some c := ⟨l[k], List.getElem?_eq_getElem hk⟩
      have c127 := (hc c (List.mem_of_getElem? hc1)).2
      have hcm := List.mem_of_getElem? hc1
      have hat : atI ((mk l).cps.toList) ((k : Nat) : Int) = some c := by rw [mk_toList]; exact atI_nat hc1
      have hdrop : l.drop k = c :: l.drop (k + 1) := by
        rw [List.drop_eq_getElem_cons hk]
        rw [List.getElem?_eq_getElem hk] at hc1
        rw [Option.some.inj hc1]
      have hcacc : ClT acc := fun d hd => hc d (cacc d hd)
      refine ⟨_, rfl, _, rfl, mk l, _, c, rfl, rfl, str_line (by omega), hat, c, _, rfl, rfl, _, rfl, ?_⟩
      rw [sg_sign c c127]
      cases hsg : isSg c with
      | false =>
        refine itT rfl ⟨_, rfl, _, rfl, _, rfl, mk l, _, c, rfl, rfl, str_line (by omega), hat, _, _, rfl, rfl, ?_, ?_⟩
        · rw [show (⟨#[c]⟩ : Str) = mk [c] from rfl, mk_len, mk_len]
          exact Nat.le_of_lt (lineT (by simp only [List.length_cons, List.length_nil]; omega))
        · refine ⟨s, acc ++ [c], done, F, ps, some (.int (k : Nat)), ?_, sG, nF, hF, hP, by rw [List.length_append]; exact Nat.succ_le_succ la, Nat.le_succ_of_le ld, fun d hd => ?_, .inr ⟨Nat.succ_pos k, ?_⟩⟩
          · have e : mk acc ++ (⟨#[c]⟩ : Str) = mk (acc ++ [c]) := mk_app acc [c]
            rw [← e]
            rfl
          · rcases List.mem_append.mp hd with h | h
            · exact cacc d h
            · rw [List.mem_singleton.mp h]; exact hcm
          · rcases hinv with ⟨rfl, rfl, rfl, rfl⟩ | ⟨h0, hb, hp⟩
            · have hl0 : l = c :: l.drop 1 := by rw [← hdrop, List.drop_zero]
              have c45 : c ≠ 45 := fun z => by rw [z] at hsg; cases hsg
              refine ⟨by unfold badHead; rw [hl0, show (c :: l.drop 1).headD 0 = c from rfl, hsg]; rfl, ?_⟩
              unfold piecesT
              rw [if_neg (by rw [hl0]; unfold startsT; exact fun z => c45 (List.cons.inj (beq_iff_eq.mp z)).1)]
              conv => lhs; rw [hl0, piecesG, if_neg (by rw [hsg]; exact Bool.false_ne_true)]
              rfl
            · refine ⟨hb, ?_⟩
              rw [hp, hdrop, piecesG, if_neg (by rw [hsg]; exact Bool.false_ne_true)]
      | true =>
        refine itF rfl (sqT ?_)
        refine ifJ (fun σ' G1 => σ' = [some (.str (mk l)), some (.ref F), some (.str (mk [s])), some (.str (mk acc)), some (.int (k : Nat))] ∧ G1 = G ∧ (k = 0 → c = 45)) ?_ (fun key => ?_)
        rotate_left
        · refine ⟨_, rfl, rfl, _, rfl, ?_⟩
          by_cases k0 : k = 0
          · refine itT (decide_eq_true (by rw [k0]; rfl)) ?_
            refine ⟨_, rfl, _, rfl, mk l, _, c, rfl, rfl, str_line (by omega), hat, rfl, _, rfl, ?_⟩
            have e45 : ("-" : Str) = mk [45] := rfl
            rw [e45, show (⟨#[c]⟩ : Str) = mk [c] from rfl, dec_str]
            by_cases c45 : c = 45
            · refine itF (by rw [c45]; rfl) (key _ _ ⟨rfl, rfl, fun _ => c45⟩)
            · refine itT (by rw [decide_eq_false (fun z => c45 (List.cons.inj z).1)]; rfl) ?_
              refine qn ?_ _ sG
              have hl0 : l = c :: l.drop 1 := by
                rw [k0, List.drop_zero] at hdrop
                exact hdrop
              unfold badHead
              rw [hl0, show (c :: l.drop 1).headD 0 = c from rfl, hsg, decide_eq_false c45]
              rfl
          · exact itF (decide_eq_false fun z => k0 (by have := V.int.inj z; omega)) (iteF (key _ _ ⟨rfl, rfl, fun h => absurd h k0⟩))
        rintro σ' G1 ⟨rfl, rfl, hk45⟩
        dsimp only
        refine sqT ?_
        refine ⟨_, rfl, _, rfl, _, rfl, rfl, mk acc, rfl, rfl, str_line (by omega), ?_⟩
        rw [strip_mk hcacc]
        refine ⟨line5 (by simp), fun T hT => ?_⟩
        have s3 : Same G1 (upd G1 T (.tup [V.str (mk [s]), V.str (mk (stripT acc))])) := Same.add hT
        have e3 : (upd G1 T (.tup [V.str (mk [s]), V.str (mk (stripT acc))])) T = some (.tup [V.str (mk [s]), V.str (mk (stripT acc))]) := upd_same
        generalize upd G1 T (.tup [V.str (mk [s]), V.str (mk (stripT acc))]) = G2 at s3 e3 ⊢
        refine ⟨line5 (by simp), fun L hL => ?_⟩
        have s4 : Same G2 (upd G2 L (.lst [V.ref T])) := Same.add hL
        have e4 : (upd G2 L (.lst [V.ref T])) L = some (.lst [V.ref T]) := upd_same
        generalize upd G2 L (.lst [V.ref T]) = G3 at s4 e4 ⊢
        have hF3 := s4 _ _ (s3 _ _ hF)
        have hT3 := s4 _ _ e3
        have s13 := Same.trans s3 s4
        refine ⟨_, rfl, _, _, rfl, rfl, .inr ⟨_, rfl, L, _, _, rfl, rfl, e4, ?_, ?_, ?_, fun M hM => ?_⟩⟩
        · split <;> decide
        · split <;> decide
        · split
          · show 1 * _ ≤ _
            decide
          · show 1 * _ ≤ _
            decide
        have erep : (List.replicate (Int.toNat (if decide ((0 : Int) < (k : Int)) = true then 1 else 0)) [V.ref T]).flatten = if 0 < k then [V.ref T] else [] := by
          by_cases k0 : 0 < k
          · rw [if_pos k0, if_pos (decide_eq_true (by omega))]
            rfl
          · rw [if_neg k0, if_neg (by rw [decide_eq_false (by omega)]; exact Bool.false_ne_true)]
            rfl
        have nM : G3 M = none := hM
        have sM : Same G3 (upd G3 M (.lst (List.replicate (Int.toNat (if decide ((0 : Int) < (k : Int)) = true then 1 else 0)) [V.ref T]).flatten)) := Same.add nM
        have eM : upd G3 M (.lst (List.replicate (Int.toNat (if decide ((0 : Int) < (k : Int)) = true then 1 else 0)) [V.ref T]).flatten) M = some (.lst (if 0 < k then [V.ref T] else [])) := by rw [upd_same, erep]
        generalize upd G3 M (.lst (List.replicate (Int.toNat (if decide ((0 : Int) < (k : Int)) = true then 1 else 0)) [V.ref T]).flatten) = G4 at sM eM ⊢
        have hF4 := sM _ _ hF3
        have lM : (if 0 < k then [V.ref T] else []).length ≤ 1 := by split <;> simp
        refine ⟨F, M, _, _, rfl, rfl, hF4, eM, Nat.le_of_lt (lineT (by have := hP.1; omega)), fun R hR => ?_⟩
        have nR : G4 R = none := hR
        have sR : Same G4 (upd G4 R (.lst (ps ++ if 0 < k then [V.ref T] else []))) := Same.add nR
        have eR : upd G4 R (.lst (ps ++ if 0 < k then [V.ref T] else [])) R = some (.lst (ps ++ if 0 < k then [V.ref T] else [])) := upd_same
        generalize upd G4 R (.lst (ps ++ if 0 < k then [V.ref T] else [])) = G5 at sR eR ⊢
        have s15 := Same.trans s13 (Same.trans sM sR)
        have sE := Same.trans sG s15
        have nRH : H R = none := free_of (Same.trans sG (Same.trans s13 sM)) nR
        have hP5 := hP.same s15
        have hT5 := sR _ _ (sM _ _ hT3)
        dsimp only [gName, List.set]
        refine ⟨_, rfl, _, rfl, mk l, _, c, rfl, rfl, str_line (by omega), hat, _, _, rfl, ?_⟩
        by_cases k0 : 0 < k
        · rw [if_pos k0] at eR
          refine ⟨c, [], done ++ [(s, stripT acc)], R, _, some (.int (k : Nat)), rfl, sE, nRH, eR, hP5.snoc (p := (s, stripT acc)) (SqT.of hT5), Nat.zero_le _, by rw [List.length_append]; exact Nat.succ_le_succ ld, fun d hd => (nomatch hd), .inr ⟨Nat.succ_pos k, ?_⟩⟩
          rcases hinv with ⟨h0, _⟩ | ⟨_, hb, hp⟩
          · omega
          · refine ⟨hb, ?_⟩
            rw [hp, hdrop, piecesG, if_pos hsg, List.append_assoc]
            rfl
        · rw [if_neg k0, List.append_nil] at eR
          have k00 : k = 0 := by omega
          subst k00
          rcases hinv with ⟨_, rfl, rfl, rfl⟩ | ⟨h0, _⟩
          · have c45 := hk45 rfl
            subst c45
            have hl0 : l = 45 :: l.drop 1 := by rw [← hdrop, List.drop_zero]
            refine ⟨45, [], [], R, _, some (.int ((0 : Nat) : Int)), rfl, sE, nRH, eR, hP5, Nat.zero_le _, Nat.zero_le _, fun d hd => (nomatch hd), .inr ⟨Nat.succ_pos 0, ?_, ?_⟩⟩
            · unfold badHead
              rw [hl0, show (45 :: l.drop 1).headD 0 = 45 from rfl]
              rfl
            · unfold piecesT
              rw [if_pos (by rw [hl0]; rfl)]
              rfl
          · exact absurd h0 k0
    · rintro σ G ⟨s, acc, done, F, ps, v4, rfl, sG, nF, hF, hP, la, ld, cacc, hinv⟩
      have hcacc : ClT acc := fun d hd => hc d (cacc d hd)
      have hfin : badHead l = false ∧ piecesT l = done ++ [(s, stripT acc)] := by
        rcases hinv with ⟨h0, rfl, rfl, rfl⟩ | ⟨h0, hb, hp⟩
        · have : l = [] := List.eq_nil_of_length_eq_zero h0
          subst this
          exact ⟨rfl, rfl⟩
        · rw [List.drop_length] at hp
          exact ⟨hb, hp⟩
      refine ⟨_, rfl, _, rfl, _, rfl, rfl, mk acc, rfl, rfl, str_line (by omega), ?_⟩
      rw [strip_mk hcacc]
      refine ⟨line5 (by simp), fun T hT => ?_⟩
      have s3 : Same G (upd G T (.tup [V.str (mk [s]), V.str (mk (stripT acc))])) := Same.add hT
      have e3 : (upd G T (.tup [V.str (mk [s]), V.str (mk (stripT acc))])) T = some (.tup [V.str (mk [s]), V.str (mk (stripT acc))]) := upd_same
      generalize upd G T (.tup [V.str (mk [s]), V.str (mk (stripT acc))]) = G1 at s3 e3 ⊢
      refine ⟨line5 (by simp), fun L hL => ?_⟩
      have s4 : Same G1 (upd G1 L (.lst [V.ref T])) := Same.add hL
      have e4 : (upd G1 L (.lst [V.ref T])) L = some (.lst [V.ref T]) := upd_same
      generalize upd G1 L (.lst [V.ref T]) = G2 at s4 e4 ⊢
      have hF2 := s4 _ _ (s3 _ _ hF)
      refine ⟨F, L, _, _, rfl, rfl, hF2, e4, Nat.le_of_lt (lineT (by have := hP.1; simp only [List.length_cons, List.length_nil]; omega)), fun R hR => ?_⟩
      have sE := Same.trans sG (Same.trans s3 s4)
      refine qy hfin.1 R _ _ (Same.trans sE (Same.add hR)) (free_of sE hR) upd_same ?_
      rw [hfin.2]
      exact ((hP.same (Same.trans s3 s4)).snoc (p := (s, stripT acc)) (SqT.of (s4 _ _ e3))).same (Same.add hR)
end
end Bm
set_option maxHeartbeats 1000000
namespace Bm
open PySem PySem.Spec PyProof.Rows L2
/-- bits of both, of either, of just one -/
noncomputable def bit3 (c : Nat) (x y : Int) : Int := if c = 38 then Builtin.bitAnd x y else if c = 124 then Builtin.bitOr x y else Builtin.bitXor x y
def one3 (c : Nat) (a b : Int) : Int := if c = 38 then min a b else if c = 124 then max a b else if a = b then 0 else 1
theorem bit3_or (x y : Int) : Builtin.bitOr x y = x + y - Builtin.bitAnd x y := by
  have h := bitXor_and x y
  have e : Builtin.bitXor x y = Builtin.bitOr x y - Builtin.bitAnd x y := rfl
  omega
theorem bit3_half (c : Nat) (x y : Int) : bit3 c x y = 2 * bit3 c (x / 2) (y / 2) + one3 c (x % 2) (y % 2) := by
  have h := PySem.W.kbt_halves x y
  have hx : x % 2 = 0 ∨ x % 2 = 1 := by omega
  have hy : y % 2 = 0 ∨ y % 2 = 1 := by omega
  have ex := Int.mul_ediv_add_emod x 2
  have ey := Int.mul_ediv_add_emod y 2
  have hmin : min (x % 2) (y % 2) = if x % 2 = 1 ∧ y % 2 = 1 then 1 else 0 := by
    rcases hx with a | a <;> rcases hy with b | b <;> rw [a, b] <;> decide
  have hmax : max (x % 2) (y % 2) = x % 2 + y % 2 - if x % 2 = 1 ∧ y % 2 = 1 then 1 else 0 := by
    rcases hx with a | a <;> rcases hy with b | b <;> rw [a, b] <;> decide
  have hxor : (if x % 2 = y % 2 then (0 : Int) else 1) = x % 2 + y % 2 - 2 * if x % 2 = 1 ∧ y % 2 = 1 then 1 else 0 := by
    rcases hx with a | a <;> rcases hy with b | b <;> rw [a, b] <;> decide
  unfold bit3 one3
  rw [hmin, hmax, hxor]
  generalize (if x % 2 = 1 ∧ y % 2 = 1 then (1 : Int) else 0) = z at h
  by_cases c1 : c = 38
  · rw [if_pos c1, if_pos c1, if_pos c1, h]
  rw [if_neg c1, if_neg c1, if_neg c1]
  by_cases c2 : c = 124
  · rw [if_pos c2, if_pos c2, if_pos c2, bit3_or, bit3_or]
    omega
  rw [if_neg c2, if_neg c2, if_neg c2, bitXor_and, bitXor_and]
  omega
/-- the bits below one -/
def sumB (c : Nat) (x y : Int) : Nat → Int
  | 0 => 0
  | k + 1 => sumB c x y k + 2 ^ k * one3 c (x / 2 ^ k % 2) (y / 2 ^ k % 2)
theorem sumB_all (c : Nat) (x y : Int) : ∀ n : Nat, sumB c x y n + 2 ^ n * bit3 c (x / 2 ^ n) (y / 2 ^ n) = bit3 c x y
  | 0 => by simp [sumB]
  | n + 1 => by
    have ih := sumB_all c x y n
    rw [bit3_half c (x / 2 ^ n) (y / 2 ^ n)] at ih
    have ex : x / 2 ^ (n + 1) = x / 2 ^ n / 2 := by rw [Int.pow_succ, Int.ediv_ediv_of_nonneg (Int.pow_nonneg (by decide))]
    have ey : y / 2 ^ (n + 1) = y / 2 ^ n / 2 := by rw [Int.pow_succ, Int.ediv_ediv_of_nonneg (Int.pow_nonneg (by decide))]
    rw [sumB, ex, ey, Int.pow_succ, ← ih, Int.mul_add, Int.mul_assoc, Int.add_assoc, Int.add_comm (2 ^ n * one3 c _ _)]
theorem one3_01 {c : Nat} {a b : Int} (ha : a = 0 ∨ a = 1) (hb : b = 0 ∨ b = 1) : one3 c a b = 0 ∨ one3 c a b = 1 := by
  unfold one3
  by_cases c1 : c = 38
  · rw [if_pos c1]
    rcases ha with rfl | rfl <;> rcases hb with rfl | rfl <;> decide
  by_cases c2 : c = 124
  · rw [if_neg c1, if_pos c2]
    rcases ha with rfl | rfl <;> rcases hb with rfl | rfl <;> decide
  rw [if_neg c1, if_neg c2]
  rcases ha with rfl | rfl <;> rcases hb with rfl | rfl <;> decide
theorem sumB_lt (c : Nat) (x y : Int) : ∀ n : Nat, 0 ≤ sumB c x y n ∧ sumB c x y n < 2 ^ n
  | 0 => by simp [sumB]
  | n + 1 => by
    obtain ⟨h1, h2⟩ := sumB_lt c x y n
    have h3 : one3 c (x / 2 ^ n % 2) (y / 2 ^ n % 2) = 0 ∨ one3 c (x / 2 ^ n % 2) (y / 2 ^ n % 2) = 1 := one3_01 (by omega) (by omega)
    rw [sumB, Int.pow_succ]
    rcases h3 with e | e <;> rw [e] <;> omega
theorem bit3_end {c : Nat} {x y : Int} (hx : Bil x) (hy : Bil y) : sumB c x y 34 - 2 ^ 34 * (if sumB c x y 34 * 2 ≥ 2 ^ 34 then 1 else 0) = bit3 c x y ∧ -(2 ^ 33) ≤ bit3 c x y ∧ bit3 c x y < 2 ^ 33 := by
  have h := sumB_all c x y 33
  obtain ⟨h1, h2⟩ := sumB_lt c x y 33
  have e34 : sumB c x y 34 = sumB c x y 33 + 2 ^ 33 * one3 c (x / 2 ^ 33 % 2) (y / 2 ^ 33 % 2) := rfl
  obtain ⟨x1, x2⟩ := hx
  obtain ⟨y1, y2⟩ := hy
  have hx : x / 2 ^ 33 = 0 ∨ x / 2 ^ 33 = -1 := by omega
  have hy : y / 2 ^ 33 = 0 ∨ y / 2 ^ 33 = -1 := by omega
  have key : ∀ a b : Int, (a = 0 ∨ a = -1) → (b = 0 ∨ b = -1) → bit3 c a b = - one3 c (a % 2) (b % 2) ∧ (one3 c (a % 2) (b % 2) = 0 ∨ one3 c (a % 2) (b % 2) = 1) := fun a b ha hb => by
    refine ⟨?_, one3_01 (by omega) (by omega)⟩
    unfold bit3 one3
    by_cases c1 : c = 38
    · rw [if_pos c1, if_pos c1]
      rcases ha with rfl | rfl <;> rcases hb with rfl | rfl <;> decide
    rw [if_neg c1, if_neg c1]
    by_cases c2 : c = 124
    · rw [if_pos c2, if_pos c2]
      rcases ha with rfl | rfl <;> rcases hb with rfl | rfl <;> decide
    rw [if_neg c2, if_neg c2]
    rcases ha with rfl | rfl <;> rcases hb with rfl | rfl <;> decide
  obtain ⟨k1, k2⟩ := key _ _ hx hy
  rw [k1] at h
  rw [e34]
  generalize one3 c (x / 2 ^ 33 % 2) (y / 2 ^ 33 % 2) = z at h k2 ⊢
  clear key k1 e34
  have p33 : (2 : Int) ^ 33 = 8589934592 := by decide
  have p34 : (2 : Int) ^ 34 = 17179869184 := by decide
  rw [p33] at *
  rw [p34] at *
  rcases k2 with rfl | rfl
  · rw [if_neg (by omega)]
    omega
  · rw [if_pos (by omega)]
    omega
section
variable {P : Program} {w : World} {K : PySem.W.Frag} {mg : Str → Option Value} {base : Heap} {f : Addr} {fd : FuncData} {dvs : List V}
def spLBits : Sp := fun vs H Q _ => ∃ (c : Nat) (x y : Int), vs = [.str (mk [c]), .int x, .int y] ∧ (c = 38 ∨ c = 124 ∨ c = 94) ∧ Bil x ∧ Bil y ∧ ∀ H', Same H H' → Q (.int (bit3 c x y)) H'
abbrev N__law_bits : List Str := ["_law_sign", "_law_one", "_law_other", "_law_found", "_law_step", "_law_k", "_law_pair"]
theorem sc__law_bits : FnScope ["_law_sign", "_law_one", "_law_other", "_law_found", "_law_step", "_law_k", "_law_pair"] ["_law_sign", "_law_one", "_law_other"] (defScope s__law_bits) := ⟨rfl, rfl, rfl, by decide +kernel, rfl, by decide +kernel, by decide +kernel⟩
theorem ok_lbits (F : FnP K "_law_bits" s__law_bits dvs f fd) (g_range : mg "range" = none) (g_min : mg "min" = none) (g_max : mg "max" = none) (g_int : mg "int" = none) : FnOk P w K mg base CX0 1 f fd ["_law_sign", "_law_one", "_law_other"] spLBits := by
  refine F.ok sc__law_bits (fun vs H Q E h => ?_) (fun cdv A outer s H vs Q E hr h => ?_)
  · obtain ⟨c, x, y, rfl, _⟩ := h
    rfl
  · obtain ⟨c, x, y, rfl, hc, hx, hy, q⟩ := h
    refine ⟨_, PSs.nox (pss_cons (ps_asg (pe_tup (pa_cons pe_int (pa_cons pe_int pa_nil))) (pg_tup rfl (pgs_cons (pg_name (i := 3) sc__law_bits.nd rfl (Or.inl rfl)) (pgs_cons (pg_name (i := 4) sc__law_bits.nd rfl (Or.inl rfl)) pgs_nil))))
      (pss_cons (ps_for PassesOwn.never rfl (pi_range1 rfl g_range (pa_cons pe_int pa_nil)) (pg_name (i := 5) sc__law_bits.nd rfl (Or.inl rfl))
      (pss_cons (ps_set (i := 6) sc__law_bits.nd rfl (Or.inl rfl) (pe_lst (pa_cons (pe_op op_modN (pe_op op_fdivW (pv 1) (pv 4)) pe_int) (pa_cons (pe_op op_modN (pe_op op_fdivW (pv 2) (pv 4)) pe_int) pa_nil))))
      (pss_cons (ps_set (i := 3) sc__law_bits.nd rfl (Or.inl rfl) (pe_op op_add (pv 3) (pe_op op_mul (pv 4) (pe_dget (hu_of hr) (pe_disp (L2.pps_cons pe_str (pe_callB (cr_min rfl) rfl g_min (by decide +kernel) (pa_cons (pv 6) pa_nil)) (L2.pps_cons pe_str (pe_callB (cr_max rfl) rfl g_max (by decide +kernel) (pa_cons (pv 6) pa_nil)) (L2.pps_cons pe_str (pe_callTy call_int1 rfl g_int (by decide +kernel) (pa_cons (pe_cmpR op_ne (pe_ix ix_list (pv 6) pe_int (fun _ _ => rfl)) (pe_ix ix_list (pv 6) pe_int (fun _ _ => rfl)) (nomark _)) pa_nil)) L2.pps_nil))) rfl rfl (fun z => by cases z) (by decide)) (pv 0) (fun _ _ => rfl)))))
      (pss_one (ps_set (i := 4) sc__law_bits.nd rfl (Or.inl rfl) (pe_op op_mul (pv 4) pe_int))))))
      (pss_one (ps_ret (pe_op op_sub (pv 3) (pe_op op_mul (pv 4) (pe_callTy call_int1 rfl g_int (by decide +kernel) (pa_cons (pe_cmpR op_ge (pe_op op_mul (pv 3) pe_int) (pv 4) (nomark _)) pa_nil)))))))), ?_⟩
    refine sqT ?_
    refine ⟨line5 (by simp), fun T0 hT0 => ?_⟩
    have s1 : Same H (upd H T0 (.tup [V.int 0, V.int 1])) := Same.add hT0
    have e1 : (upd H T0 (.tup [V.int 0, V.int 1])) T0 = some (.tup [V.int 0, V.int 1]) := upd_same
    generalize upd H T0 (.tup [V.int 0, V.int 1]) = H1 at s1 e1 ⊢
    refine ⟨T0, _, rfl, SqT.of e1, rfl, _, _, rfl, _, _, rfl, rfl, ?_⟩
    dsimp only [gName, List.set]
    refine sqT ?_
    refine ⟨_, rfl, (by decide : -(2 ^ 62) ≤ (34 : Int)), (by decide : (34 : Int) < 2 ^ 62), ?_⟩
    rw [show ((34 : Int)).toNat = 34 from rfl]
    have hpow : ∀ k : Nat, k ≤ 34 → (1 : Int) ≤ 2 ^ k ∧ (2 : Int) ^ k ≤ 17179869184 ∧ ((2 : Int) ^ k).natAbs.log2 < 9000 := by decide +kernel
    refine for_it walk_range (fun k σ G => ∃ v5 v6 : Option V, σ = [some (.str (mk [c])), some (.int x), some (.int y), some (.int (sumB c x y k)), some (.int (2 ^ k)), v5, v6] ∧ Same H G) ⟨none, none, rfl, s1⟩ (fun _ _ _ _ _ => trivial) ?_ ?_
    · rintro k z σ G G' hk ⟨v5, v6, rfl, sG⟩ ⟨eH, eX⟩
      rw [eH]
      obtain ⟨p1, p2, p3⟩ := hpow k (by omega)
      have ex : (x / 2 ^ k).fmod 2 = x / 2 ^ k % 2 := Int.fmod_eq_emod_of_nonneg _ (by decide)
      have ey : (y / 2 ^ k).fmod 2 = y / 2 ^ k % 2 := Int.fmod_eq_emod_of_nonneg _ (by decide)
      have dv : 0 < (2 : Int) ^ k ∧ ((2 : Int) ^ k).natAbs.log2 < 9000 := ⟨by omega, p3⟩
      have n2 : (2 : Int) ≠ 0 := by decide
      refine ⟨_, rfl, _, rfl, _, _, rfl, rfl, dv, _, _, rfl, rfl, n2, _, rfl, _, rfl, _, _, rfl, rfl, dv, _, _, rfl, rfl, n2, line5 (by simp), fun L hL => ?_⟩
      dsimp only
      rw [ex, ey]
      have a1 : x / 2 ^ k % 2 = 0 ∨ x / 2 ^ k % 2 = 1 := by omega
      have b1 : y / 2 ^ k % 2 = 0 ∨ y / 2 ^ k % 2 = 1 := by omega
      have hsum : sumB c x y (k + 1) = sumB c x y k + 2 ^ k * one3 c (x / 2 ^ k % 2) (y / 2 ^ k % 2) := rfl
      generalize x / 2 ^ k % 2 = a at a1 hsum ⊢
      generalize y / 2 ^ k % 2 = b at b1 hsum ⊢
      have s2 : Same G (upd G L (.lst [V.int a, V.int b])) := Same.add hL
      have e2 : (upd G L (.lst [V.int a, V.int b])) L = some (.lst [V.int a, V.int b]) := upd_same
      generalize upd G L (.lst [V.int a, V.int b]) = G2 at s2 e2 ⊢
      have sL : SqL K G2 L ([a, b].map V.int) := SqL.of e2
      dsimp only [gName, List.set]
      refine sqT ?_
      refine ⟨_, rfl, _, rfl, fun D hD => ?_⟩
      have nD : G2 D = none := hD
      have s3 : Same G2 (upd G2 D (.dK [])) := Same.add hD
      have e3 : (upd G2 D (.dK [])) D = some (.dK []) := upd_same
      generalize upd G2 D (.dK []) = G3 at s3 e3 ⊢
      have sL3 : SqL K G3 L ([a, b].map V.int) := s3.seq sL
      refine ⟨_, rfl, L, [a, b], rfl, sL3, by simp, fun m1 hm1 hle1 => ⟨_, rfl, L, [a, b], rfl, sL3, by simp, fun m2 hm2 hle2 => ?_⟩⟩
      have em1 : m1 = min a b := by
        have h1 := hle1 a (by simp)
        have h2 := hle1 b (by simp)
        have h3 : m1 = a ∨ m1 = b := by simpa using hm1
        omega
      have em2 : m2 = max a b := by
        have h1 := hle2 a (by simp)
        have h2 := hle2 b (by simp)
        have h3 : m2 = a ∨ m2 = b := by simpa using hm2
        omega
      subst em1
      subst em2
      refine ⟨_, rfl, L, _, _, _, rfl, rfl, sL3, atI_nat (j := 0) rfl, _, rfl, L, _, _, _, rfl, rfl, sL3, atI_nat (j := 1) rfl, rfl, .inr ⟨_, rfl, e3, [(.inr "&", .int (min a b)), (.inr "|", .int (max a b)), (.inr "^", .int (if (!decide (V.int a = V.int b)) = true then 1 else 0))], rfl, (show 3 ≤ 15 by decide), _, rfl, D, .int (one3 c a b), rfl, ?_, ?_⟩⟩
      · have hv : valV (mergeK [] [(.inr "&", .int (min a b)), (.inr "|", .int (max a b)), (.inr "^", .int (if (!decide (V.int a = V.int b)) = true then 1 else 0))]) (.inr (mk [c]) : Key) = some (.int (one3 c a b)) := by
          show valV (putK (putK (putK [] (.inr (mk [38]) : Key) (.int (min a b))) (.inr (mk [124]) : Key) (.int (max a b))) (.inr (mk [94]) : Key) (.int (if (!decide (V.int a = V.int b)) = true then 1 else 0))) _ = _
          have ne : ∀ d e : Nat, d ≠ e → ¬ (.inr (mk [d]) : Key) = .inr (mk [e]) := fun d e h z => h (List.cons.inj (mk_inj (Sum.inr.inj z))).1
          rw [valV_put, valV_put, valV_put]
          rcases hc with rfl | rfl | rfl
          · rw [if_neg (ne 38 94 (by decide)), if_neg (ne 38 124 (by decide)), if_pos rfl]
            rfl
          · rw [if_neg (ne 124 94 (by decide)), if_pos rfl]
            rfl
          · rw [if_pos rfl]
            refine congrArg (fun z => some (V.int z)) ?_
            have e1 : one3 94 a b = if a = b then 0 else 1 := rfl
            rw [e1]
            by_cases h : a = b
            · rw [if_pos h, decide_eq_true (congrArg V.int h)]
              rfl
            · rw [if_neg h, decide_eq_false (fun z => h (V.int.inj z))]
              rfl
        rw [← hv]
        exact DGet.k (k := Sum.inr (mk [c])) upd_same
      have o01 : one3 c a b = 0 ∨ one3 c a b = 1 := one3_01 a1 b1
      refine ⟨_, _, rfl, rfl, .inl ⟨by omega, by omega⟩, _, _, rfl, rfl, ?_⟩
      dsimp only [gName, List.set]
      refine ⟨_, rfl, _, _, rfl, rfl, .inl ⟨by omega, by omega⟩, ?_⟩
      have nDH : H D = none := free_of (Same.trans sG s2) nD
      refine ⟨some z, some (.ref L), ?_, Same.mut (Same.trans sG (Same.trans s2 s3)) nDH⟩
      rw [hsum, Int.pow_succ]
      rfl
    · rintro σ G ⟨v5, v6, rfl, sG⟩
      obtain ⟨h1, h2, h3⟩ := bit3_end (c := c) hx hy
      obtain ⟨g1, g2⟩ := sumB_lt c x y 34
      have p33 : (2 : Int) ^ 33 = 8589934592 := by decide
      have p34 : (2 : Int) ^ 34 = 17179869184 := by decide
      rw [p34] at h1 g2
      refine ⟨_, rfl, _, rfl, _, rfl, _, _, rfl, rfl, .inl ⟨by omega, by omega⟩, _, rfl, _, _, rfl, rfl, .inr ⟨_, rfl, _, _, rfl, rfl, .inl ⟨by rw [p34]; decide, by rw [p34]; decide⟩, _, _, rfl, rfl, ?_⟩⟩
      have qz := q G sG
      rw [← h1] at qz
      show Q (.int (sumB c x y 34 - 2 ^ 34 * (if decide (2 ^ 34 ≤ sumB c x y 34 * 2) = true then 1 else 0))) G
      rw [p34]
      by_cases h : (17179869184 : Int) ≤ sumB c x y 34 * 2
      · rw [if_pos h] at qz
        rw [if_pos (decide_eq_true h)]
        exact qz
      · rw [if_neg h] at qz
        rw [if_neg (by rw [decide_eq_false h]; exact Bool.false_ne_true)]
        exact qz
abbrev KnLBits (P : Program) (w : World) (K : PySem.W.Frag) (mg : Str → Option Value) (base : Heap) : Prop := Kn P w K mg base CX0 1 "_law_bits" ["_law_sign", "_law_one", "_law_other"] [] spLBits
end
end Bm
set_option maxHeartbeats 1000000
namespace Bm
open PySem PySem.Spec PyProof.Rows L2
/-- what a word of a sum is worth, as the law reckons it -/
def worthL (nm : Tx → Option Int) (p : Tx) : Rs Int := match lawNum p with
  | some n => .ok (n : Nat)
  | none => if isNm (lowT p) = false ∧ lowT p ≠ HERE then .bad "number" else match nm (lowT p) with
    | none => .bad "name"
    | some i => .ok i
noncomputable def sumL (nm : Tx → Option Int) : Int → List (Nat × Tx) → Rs Int
  | t, [] => .ok t
  | t, (c, p) :: r => match worthL nm p with
    | .bad y => .bad y
    | .ok o => match onT t c o with
      | .bad y => .bad y
      | .ok u => sumL nm u r
noncomputable def lawSum (nm : Tx → Option Int) (l : Tx) : Rs Int := if badHead (stripT l) = true then sumL nm 0 [(43, [])] else sumL nm 0 (piecesT (stripT l))
def vRs : Rs Int → V
  | .ok i => .int i
  | .bad y => .str y
theorem nextU {D : Ends} {σ : L2.St} {H : Hp} (h : D.nx σ H) : tNext D σ H := h
theorem asgJ {t : TE} {g : TG} {D : Ends} {σ : L2.St} {H : Hp} (P : L2.St → Hp → Prop) (h1 : ∀ σ' G, P σ' G → D.nx σ' G) (h2 : (∀ σ' G, P σ' G → D.nx σ' G) → tAsg t g D σ H) : tAsg t g D σ H := h2 h1
theorem lawNum_lt {p : Tx} {n : Nat} (h : lawNum p = some n) : n < 100000 := by
  unfold lawNum at h
  split at h
  · unfold signN at h
    split at h
    · split at h
      · rename_i c hl
        have e := Option.some.inj h
        unfold isLet low1 at hl
        simp only [Bool.and_eq_true, decide_eq_true_eq] at hl
        split at hl <;> omega
      · cases h
    · cases h
  · exact numT_lt h
theorem lowT_cl {l : Tx} (h : ClT l) : ClT (lowT l) := fun c hc1 => by
  obtain ⟨x, hx, rfl⟩ := List.mem_map.mp hc1
  exact low1_cl (h x hx)
theorem lowT_len (l : Tx) : (lowT l).length = l.length := List.length_map ..
theorem str_shaped {l : Tx} (h : ClT l) : SeqAt.shaped (.str (mk l)) = true := by
  unfold SeqAt.shaped
  simp only [PyData.canLay0, PyData.depth, str_ok h, Bool.true_and]
  exact decide_eq_true (Nat.zero_le 64)
theorem str_eqv (l m : Tx) : (PyData.str (mk l)).eqv (.str (mk m)) = decide (l = m) := by
  unfold PyData.eqv
  by_cases h : l = m
  · rw [h, decide_eq_true rfl]
    simp
  · rw [decide_eq_false h]
    exact beq_false_of_ne fun z => h (mk_inj z)
theorem bits_sign : ∀ c, c < 127 → decide (c ∈ ("&|^" : Str).cps.toList) = decide (c = 38 ∨ c = 124 ∨ c = 94) := by decide +kernel
section
variable {P : Program} {w : World} {K : PySem.W.Frag} {mg : Str → Option Value} {base : Heap} {f : Addr} {fd : FuncData} {dvs : List V}
def spLCm : Sp := fun vs H Q _ => ∃ (c : Nat) (x y : Int), vs = [.str (mk [c]), .int x, .int y] ∧ isSg c = true ∧ Bil x ∧ Bil y ∧ ∀ H', Same H H' → Q (if (c = 60 ∨ c = 62) ∧ ¬ (0 ≤ y ∧ y ≤ 16) then .non else .int (sumS c x y)) H'
abbrev N__law_comes : List Str := ["_law_sign", "_law_one", "_law_other", "_law_by", "_law_k"]
theorem sc__law_comes : FnScope ["_law_sign", "_law_one", "_law_other", "_law_by", "_law_k"] ["_law_sign", "_law_one", "_law_other"] (defScope s__law_comes) := ⟨rfl, rfl, rfl, by decide +kernel, rfl, by decide +kernel, by decide +kernel⟩
theorem ok_lcm (F : FnP K "_law_comes" s__law_comes dvs f fd) (k__law_bits : KnLBits P w K mg base) (g_range : mg "range" = none) : FnOk P w K mg base CX0 2 f fd ["_law_sign", "_law_one", "_law_other"] spLCm := by
  refine F.ok sc__law_comes (fun vs H Q E h => ?_) (fun cdv A outer s H vs Q E hr h => ?_)
  · obtain ⟨c, x, y, rfl, _⟩ := h
    rfl
  · obtain ⟨c, x, y, rfl, hc, hx, hy, q⟩ := h
    refine ⟨_, PSs.nox (pss_cons (ps_if (pt_cmpR op_in_sign (pv 0) pe_str rfl) (pss_one (ps_ret (pk k__law_bits hr (by decide) rfl pass0 (pa_cons (pv 0) (pa_cons (pv 1) (pa_cons (pv 2) pa_nil)))))) pss_nil)
      (pss_cons (ps_if (pt_cmpR op_in_sign (pv 0) pe_str rfl) (pss_cons (ps_set (i := 3) sc__law_comes.nd rfl (Or.inl rfl) pe_int)
      (pss_cons (ps_for PassesOwn.never rfl (pi_range1 rfl g_range (pa_cons (pe_ifExp (pt_chain op_le op_le pe_int (pv 2) pe_int) (pv 2) pe_int) pa_nil)) (pg_name (i := 4) sc__law_comes.nd rfl (Or.inl rfl))
      (pss_one (ps_set (i := 3) sc__law_comes.nd rfl (Or.inl rfl) (pe_op op_mul (pv 3) pe_int))))
      (pss_one (ps_ret (pe_ifExp (pt_chain op_le op_le pe_int (pv 2) pe_int) (pe_ifExp (pt_cmpR op_eq (pv 0) pe_str (nomark _)) (pe_op op_mul (pv 1) (pv 3)) (pe_op op_fdivW (pv 1) (pv 3))) pe_non))))) pss_nil)
      (pss_one (ps_ret (pe_dget (hu_of hr) (pe_disp (L2.pps_cons pe_str (pe_op op_add (pv 1) (pv 2)) (L2.pps_cons pe_str (pe_op op_sub (pv 1) (pv 2)) (L2.pps_cons pe_str (pe_op op_mul (pv 1) (pv 2)) L2.pps_nil))) rfl rfl (fun z => by cases z) (by decide)) (pv 0) (fun _ _ => rfl)))))), ?_⟩
    have c127 := isSg_lt hc
    obtain ⟨x1, x2⟩ := id hx
    obtain ⟨y1, y2⟩ := id hy
    refine sqT ?_
    refine ⟨_, rfl, c, _, rfl, rfl, _, rfl, ?_⟩
    rw [bits_sign c c127]
    by_cases cb : c = 38 ∨ c = 124 ∨ c = 94
    · refine itT (decide_eq_true cb) ⟨_, rfl, _, rfl, _, rfl, c, x, y, rfl, cb, hx, hy, fun H1 s1 => ?_⟩
      have q1 := q H1 s1
      rw [if_neg (by omega)] at q1
      have e : sumS c x y = bit3 c x y := by
        unfold sumS bit3
        rcases cb with rfl | rfl | rfl <;> rfl
      rw [e] at q1
      exact q1
    refine itF (decide_eq_false cb) (nextU ?_)
    dsimp only
    refine sqT ?_
    refine ⟨_, rfl, c, _, rfl, rfl, _, rfl, ?_⟩
    rw [shift_sign c c127]
    by_cases cs : c = 60 ∨ c = 62
    · refine itT (decide_eq_true cs) (sqT (asgC (x := V.int 1) ?_))
      dsimp only
      refine sqT ?_
      by_cases cr : 0 ≤ y ∧ y ≤ 16
      · obtain ⟨n, rfl⟩ := Int.eq_ofNat_of_zero_le cr.1
        have hn : n ≤ 16 := by omega
        refine ⟨_, rfl, _, _, rfl, rfl, _, rfl, itT (decide_eq_true cr.1) ⟨_, _, rfl, rfl, _, rfl, itT (decide_eq_true cr.2) ⟨_, rfl, _, rfl, by omega, by omega, ?_⟩⟩⟩
        rw [Int.toNat_natCast]
        have hpow : ∀ k : Nat, k ≤ 16 → (1 : Int) ≤ 2 ^ k ∧ (2 : Int) ^ k ≤ 65536 ∧ ((2 : Int) ^ k).natAbs.log2 < 9000 := by decide +kernel
        refine for_it walk_range (fun k σ G => ∃ v4 : Option V, σ = [some (.str (mk [c])), some (.int x), some (.int (n : Nat)), some (.int (2 ^ k)), v4] ∧ Same H G) ⟨none, rfl, Same.refl _⟩ (fun _ _ _ _ _ => trivial) ?_ ?_
        · rintro k z σ G G' hk ⟨v4, rfl, sG⟩ ⟨eH, eX⟩
          rw [eH]
          obtain ⟨p1, p2, p3⟩ := hpow k (by omega)
          refine ⟨_, rfl, _, _, rfl, rfl, .inl ⟨by omega, by omega⟩, some z, ?_, sG⟩
          rw [Int.pow_succ]
          rfl
        · rintro σ G ⟨v4, rfl, sG⟩
          obtain ⟨p1, p2, p3⟩ := hpow n hn
          have q1 := q G sG
          rw [if_neg (fun h => h.2 cr)] at q1
          refine ⟨_, rfl, _, _, rfl, rfl, _, rfl, itT (decide_eq_true cr.1) ⟨_, _, rfl, rfl, _, rfl, itT (decide_eq_true cr.2) ⟨_, rfl, rfl, _, rfl, ?_⟩⟩⟩
          have e60 : ("<" : Str) = mk [60] := rfl
          rw [e60, dec_str]
          rcases cs with rfl | rfl
          · refine itT rfl ⟨_, rfl, _, rfl, _, _, rfl, rfl, .inl ⟨by omega, by omega⟩, ?_⟩
            exact q1
          · refine itF rfl ⟨_, rfl, _, rfl, _, _, rfl, rfl, ⟨by omega, p3⟩, ?_⟩
            exact q1
      · refine ⟨_, rfl, _, _, rfl, rfl, _, rfl, ?_⟩
        have q1 : ∀ G, Same H G → Q .non G := fun G sG => by
          have := q G sG
          rwa [if_pos ⟨cs, cr⟩] at this
        by_cases ca : 0 ≤ y
        · have cb2 : ¬ y ≤ 16 := fun z => cr ⟨ca, z⟩
          refine itT (decide_eq_true ca) ⟨_, _, rfl, rfl, _, rfl, itF (decide_eq_false cb2) ⟨_, rfl, by decide, by decide, ?_⟩⟩
          rw [show ((0 : Int)).toNat = 0 from rfl]
          refine for_it walk_range (fun k σ G => σ = [some (.str (mk [c])), some (.int x), some (.int y), some (.int 1), none] ∧ Same H G) ⟨rfl, Same.refl _⟩ (fun _ _ _ _ _ => trivial) (fun k z σ G G' hk => absurd hk (Nat.not_lt_zero _)) ?_
          rintro σ G ⟨rfl, sG⟩
          exact ⟨_, rfl, _, _, rfl, rfl, _, rfl, itT (decide_eq_true ca) ⟨_, _, rfl, rfl, _, rfl, itF (decide_eq_false cb2) (q1 G sG)⟩⟩
        · refine itF (decide_eq_false ca) ⟨_, rfl, itF rfl ⟨_, rfl, by decide, by decide, ?_⟩⟩
          rw [show ((0 : Int)).toNat = 0 from rfl]
          refine for_it walk_range (fun k σ G => σ = [some (.str (mk [c])), some (.int x), some (.int y), some (.int 1), none] ∧ Same H G) ⟨rfl, Same.refl _⟩ (fun _ _ _ _ _ => trivial) (fun k z σ G G' hk => absurd hk (Nat.not_lt_zero _)) ?_
          rintro σ G ⟨rfl, sG⟩
          exact ⟨_, rfl, _, _, rfl, rfl, _, rfl, itF (decide_eq_false ca) ⟨_, rfl, itF rfl (q1 G sG)⟩⟩
    refine itF (decide_eq_false cs) (nextU ?_)
    dsimp only
    refine fun D hD => ?_
    have nD : H D = none := hD
    have s1 : Same H (upd H D (.dK [])) := Same.add hD
    have e1 : (upd H D (.dK [])) D = some (.dK []) := upd_same
    generalize upd H D (.dK []) = H1 at s1 e1 ⊢
    have hv : valV (mergeK [] [(.inr "+", .int (x + y)), (.inr "-", .int (x - y)), (.inr "*", .int (x * y))]) (.inr (mk [c]) : Key) = some (.int (sumS c x y)) := by
      show valV (putK (putK (putK [] (.inr (mk [43]) : Key) (.int (x + y))) (.inr (mk [45]) : Key) (.int (x - y))) (.inr (mk [42]) : Key) (.int (x * y))) _ = _
      have ne : ∀ d e : Nat, d ≠ e → ¬ (.inr (mk [d]) : Key) = .inr (mk [e]) := fun d e h z => h (List.cons.inj (mk_inj (Sum.inr.inj z))).1
      have hc3 : c = 43 ∨ c = 45 ∨ c = 42 := by
        unfold isSg at hc
        simp only [Bool.or_eq_true, beq_iff_eq] at hc
        omega
      rw [valV_put, valV_put, valV_put]
      rcases hc3 with rfl | rfl | rfl
      · rw [if_neg (ne 43 42 (by decide)), if_neg (ne 43 45 (by decide)), if_pos rfl]
        rfl
      · rw [if_neg (ne 45 42 (by decide)), if_pos rfl]
        rfl
      · rw [if_pos rfl]
        rfl
    have q1 := q (upd H1 D (.dK (mergeK [] [(.inr "+", .int (x + y)), (.inr "-", .int (x - y)), (.inr "*", .int (x * y))]))) (Same.mut s1 nD)
    rw [if_neg (fun h => cs h.1)] at q1
    refine ⟨_, rfl, _, rfl, _, _, rfl, rfl, _, rfl, _, rfl, _, _, rfl, rfl, _, rfl, _, rfl, _, _, rfl, rfl, .inl ⟨by omega, by omega⟩, e1, [(.inr "+", .int (x + y)), (.inr "-", .int (x - y)), (.inr "*", .int (x * y))], rfl, (show 3 ≤ 15 by decide), _, rfl, D, _, rfl, ?_, q1⟩
    rw [← hv]
    exact DGet.k (k := Sum.inr (mk [c])) upd_same
abbrev KnLCm (P : Program) (w : World) (K : PySem.W.Frag) (mg : Str → Option Value) (base : Heap) : Prop := Kn P w K mg base CX0 2 "_law_comes" ["_law_sign", "_law_one", "_law_other"] [] spLCm
def spLSum (K : PySem.W.Frag) : Sp := fun vs H Q _ => ∃ (l : Tx) (a : Addr) (nm : Tx → Option Int), vs = [.str (mk l), .ref a] ∧ ClT l ∧ l.length ≤ 500 ∧ NmAt H a nm ∧ (∀ p i, nm p = some i → Bil i) ∧ ∀ H', Same H H' → Q (vRs (lawSum nm l)) H'
abbrev N__law_sum : List Str := ["_law_text", "_law_known", "_law_pieces_here", "_law_found", "_law_sign", "_law_word", "_law_number"]
theorem sc__law_sum : FnScope ["_law_text", "_law_known", "_law_pieces_here", "_law_found", "_law_sign", "_law_word", "_law_number"] ["_law_text", "_law_known"] (defScope s__law_sum) := ⟨rfl, rfl, rfl, by decide +kernel, rfl, by decide +kernel, by decide +kernel⟩
theorem ok_lsum (F : FnP K "_law_sum" s__law_sum dvs f fd) (k__law_pieces : Kn P w K mg base CX0 1 "_law_pieces" ["_law_text"] [] (spLPc K)) (k__law_number_in : KnLNum P w K mg base) (k__law_is_name : KnLNm P w K mg base) (k__law_comes : KnLCm P w K mg base) : FnOk P w K mg base CX0 3 f fd ["_law_text", "_law_known"] (spLSum K) := by
  refine F.ok sc__law_sum (fun vs H Q E h => ?_) (fun cdv A outer s H vs Q E hr h => ?_)
  · obtain ⟨l, a, nm, rfl, _⟩ := h
    rfl
  · obtain ⟨l, a, nm, rfl, hc, hl, hN, hB, q⟩ := h
    refine ⟨_, PSs.nox (pss_cons (ps_set (i := 2) sc__law_sum.nd rfl (Or.inl rfl) (pk k__law_pieces hr (by decide) rfl pass0 (pa_cons (pe_bm0 PySem.F.plainAttrs_str PySem.F.slot_str_strip PySem.F.type_str_strip mt_strip (pv 0)) pa_nil)))
      (pss_cons (ps_set (i := 3) sc__law_sum.nd rfl (Or.inl rfl) pe_int)
      (pss_cons (ps_for PassesOwn.never rfl (pi_list (pe_ifExp (pt_cmpR op_notN (pv 2) pe_non (nomark _)) (pv 2) (pe_lst (pa_cons (pe_tup (pa_cons pe_str (pa_cons pe_str pa_nil))) pa_nil)))) (pg_tup rfl (pgs_cons (pg_name (i := 4) sc__law_sum.nd rfl (Or.inl rfl)) (pgs_cons (pg_name (i := 5) sc__law_sum.nd rfl (Or.inl rfl)) pgs_nil)))
      (pss_cons (ps_set (i := 6) sc__law_sum.nd rfl (Or.inl rfl) (pk k__law_number_in hr (by decide) rfl pass0 (pa_cons (pv 5) pa_nil)))
      (pss_cons (ps_if (pt_cmpR op_isN (pv 6) pe_non (nomark _)) (pss_cons (ps_if (PW.pt (pw_and (pt_not (pt_val (pk k__law_is_name hr (by decide) rfl pass0 (pa_cons (pe_bm0 PySem.F.plainAttrs_str PySem.F.slot_str_lower PySem.F.type_str_lower mt_lower (pv 5)) pa_nil)))) (pw_and1 (pt_cmpR (op_neD hr.units) (pe_bm0 PySem.F.plainAttrs_str PySem.F.slot_str_lower PySem.F.type_str_lower mt_lower (pv 5)) pe_str (nomark _))))) (pss_one (ps_ret pe_str)) pss_nil)
      (pss_cons (ps_if (pt_cmpR (op_notInDk (hu_of hr)) (pe_bm0 PySem.F.plainAttrs_str PySem.F.slot_str_lower PySem.F.type_str_lower mt_lower (pv 5)) (pv 1) rfl) (pss_one (ps_ret pe_str)) pss_nil)
      (pss_one (ps_set (i := 6) sc__law_sum.nd rfl (Or.inl rfl) (pe_dget (hu_of hr) (pv 1) (pe_bm0 PySem.F.plainAttrs_str PySem.F.slot_str_lower PySem.F.type_str_lower mt_lower (pv 5)) (fun _ _ => rfl)))))) pss_nil)
      (pss_cons (ps_set (i := 3) sc__law_sum.nd rfl (Or.inl rfl) (pk k__law_comes hr (by decide) rfl pass0 (pa_cons (pv 4) (pa_cons (pv 3) (pa_cons (pv 6) pa_nil)))))
      (pss_one (ps_if (PW.pt (pw_or (pt_cmpR op_isN (pv 3) pe_non (nomark _)) (pw_or1 (pt_not (pt_chain op_le op_le (pe_op op_sub pe_int (pe_op op_pow pe_int pe_int)) (pv 3) (pe_op op_pow pe_int pe_int)))))) (pss_one (ps_ret pe_str)) pss_nil))))))
      (pss_one (ps_ret (pv 3)))))), ?_⟩
    have cst : ClT (stripT l) := hc.sub (stripT_sub l)
    have lst : (stripT l).length ≤ 500 := Nat.le_trans (stripT_len l) hl
    have eE : ("" : Str) = mk [] := rfl
    refine sqT ?_
    refine asgJ (fun σ' G => ∃ v2 : V, σ' = [some (.str (mk l)), some (.ref a), some v2, none, none, none, none] ∧ Same H G ∧ (v2 = .non ∧ badHead (stripT l) = true ∨ ∃ D ps, v2 = .ref D ∧ badHead (stripT l) = false ∧ G D = some (.lst ps) ∧ PcsAt K G ps (piecesT (stripT l)))) ?_ (fun key => ?_)
    rotate_left
    · refine ⟨_, rfl, rfl, mk l, rfl, rfl, str_line (by omega), ?_⟩
      rw [strip_mk hc]
      exact ⟨stripT l, rfl, cst, by omega, fun hb G s => key _ _ ⟨.non, rfl, s, .inl ⟨rfl, hb⟩⟩, fun hb D ps G s hD hDl hP => key _ _ ⟨.ref D, rfl, s, .inr ⟨D, ps, rfl, hb, hDl, hP⟩⟩⟩
    rintro σ' G ⟨v2, rfl, sG, hv2⟩
    dsimp only
    refine sqT (asgC (x := V.int 0) ?_)
    dsimp only [List.set]
    refine sqT ?_
    show tIf _ _ _ _ _ _
    refine tIfJ (fun v G2 => ∃ L ps pcs, v = .ref L ∧ Same H G2 ∧ G2 L = some (.lst ps) ∧ PcsAt K G2 ps pcs ∧ (∀ x ∈ pcs, isSg x.1 = true ∧ ClT x.2 ∧ x.2.length ≤ 500) ∧ lawSum nm l = sumL nm 0 pcs) ?_ (fun key => ?_)
    rotate_left
    · refine ⟨_, rfl, rfl, _, rfl, ?_⟩
      rcases hv2 with ⟨rfl, hb⟩ | ⟨D, ps, rfl, hb, hDl, hP⟩
      · refine itF rfl ⟨line5 (by simp), fun T hT => ?_⟩
        have s1 : Same G (upd G T (.tup [V.str "+", V.str ""])) := Same.add hT
        have e1 : (upd G T (.tup [V.str "+", V.str ""])) T = some (.tup [V.str "+", V.str ""]) := upd_same
        generalize upd G T (.tup [V.str "+", V.str ""]) = G1 at s1 e1 ⊢
        refine ⟨line5 (by simp), fun L hL => ?_⟩
        have s2 : Same G1 (upd G1 L (.lst [V.ref T])) := Same.add hL
        have e2 : (upd G1 L (.lst [V.ref T])) L = some (.lst [V.ref T]) := upd_same
        generalize upd G1 L (.lst [V.ref T]) = G2 at s2 e2 ⊢
        refine key _ _ ⟨L, _, [(43, [])], rfl, Same.trans sG (Same.trans s1 s2), e2, ⟨rfl, fun i v p hv hp => ?_⟩, fun x hx => ?_, ?_⟩
        · cases i with
          | zero =>
            obtain rfl := Option.some.inj hv
            obtain rfl := Option.some.inj hp
            exact ⟨T, rfl, SqT.of (s2 _ _ e1)⟩
          | succ i => cases hv
        · rw [List.mem_singleton.mp hx]
          exact ⟨rfl, fun c hc => (nomatch hc), Nat.zero_le _⟩
        · unfold lawSum
          rw [if_pos hb]
      · refine itT rfl ⟨_, rfl, key _ _ ⟨D, ps, _, rfl, sG, hDl, hP, fun x hx => ?_, ?_⟩⟩
        · obtain ⟨a1, a2, a3⟩ := pieces_ok cst x hx
          exact ⟨a1, a2, Nat.le_trans a3 lst⟩
        · unfold lawSum
          rw [if_neg (by rw [hb]; exact Bool.false_ne_true)]
    rintro v G2 ⟨L, ps, pcs, rfl, s2, hL, hP, hpc, hsum⟩
    rw [hsum] at q
    have hlv : ps.length = pcs.length := hP.1
    refine ⟨L, rfl, ⟨_, SqL.of hL⟩, for_list (K := K) (a := L) (xs := ps) (fun i σ G => ∃ (t : Int) (v4 v5 v6 : Option V), σ = [some (.str (mk l)), some (.ref a), some v2, some (.int t), v4, v5, v6] ∧ Same G2 G ∧ Bil t ∧ sumL nm 0 pcs = sumL nm t (pcs.drop i))
      ⟨0, none, none, none, rfl, Same.refl _, ⟨by decide, by decide⟩, rfl⟩ (fun i σ G _ ⟨_, _, _, _, _, h, _⟩ => SqL.of (h _ _ hL)) ?_ ?_⟩
    · rintro i x σ G3 hx ⟨t, v4, v5, v6, rfl, s3, ht, hex⟩
      have hiv : i < ps.length := (List.getElem?_eq_some_iff.mp hx).1
      obtain ⟨⟨c, p⟩, hp⟩ : ∃ p, pcs[i]? = some p := ⟨pcs[i]'(by omega), List.getElem?_eq_getElem (by omega)⟩
      obtain ⟨T, rfl, hT⟩ := hP.2 i _ _ hx hp
      obtain ⟨p1, p2, p3⟩ := hpc _ (List.mem_of_getElem? hp)
      have p1 : isSg c = true := p1
      have p2 : ClT p := p2
      have p3 : p.length ≤ 500 := p3
      have hdrop : pcs.drop i = (c, p) :: pcs.drop (i + 1) := by
        have hi2 : i < pcs.length := by omega
        rw [List.drop_eq_getElem_cons hi2]
        rw [List.getElem?_eq_getElem hi2] at hp
        rw [Option.some.inj hp]
      rw [hdrop, sumL] at hex
      refine ⟨T, _, rfl, Same.tup s3 hT, rfl, _, _, rfl, _, _, rfl, rfl, ?_⟩
      dsimp only [gName, List.set]
      have s03 := Same.trans s2 s3
      refine sqT ?_
      refine ⟨_, rfl, p, rfl, p2, by omega, fun G4 s4 => ?_⟩
      dsimp only [gName, List.set]
      have s34 := Same.trans s3 s4
      have s04 := Same.trans s2 s34
      have hlow : ClT (lowT p) := lowT_cl p2
      have hll := lowT_len p
      refine sqT ?_
      refine ifJ (fun σ' G5 => ∃ o : Int, σ' = [some (.str (mk l)), some (.ref a), some v2, some (.int t), some (.str (mk [c])), some (.str (mk p)), some (.int o)] ∧ Same G4 G5 ∧ Bil o ∧ worthL nm p = .ok o) ?_ (fun key => ?_)
      rotate_left
      · refine ⟨_, rfl, rfl, _, rfl, ?_⟩
        unfold worthL at hex key
        cases hln : lawNum p with
        | some n =>
          rw [hln] at key
          have := lawNum_lt hln
          exact itF rfl (key _ _ ⟨(n : Nat), rfl, Same.refl _, ⟨by omega, by omega⟩, rfl⟩)
        | none =>
          rw [hln] at hex key
          dsimp only at hex key
          refine itT rfl (sqT ?_)
          have hlp : (mk p).length ≤ 5592405 := by rw [mk_len]; omega
          refine ifJ (fun σ' G5 => σ' = [some (.str (mk l)), some (.ref a), some v2, some (.int t), some (.str (mk [c])), some (.str (mk p)), some .non] ∧ Same G4 G5 ∧ ¬ (isNm (lowT p) = false ∧ lowT p ≠ HERE)) ?_ (fun key2 => ?_)
          rotate_left
          · refine ⟨_, rfl, rfl, mk p, rfl, rfl, hlp, ?_⟩
            rw [lower_mk p2]
            refine ⟨lowT p, rfl, hlow, by omega, fun G5 s5 => ⟨_, rfl, ?_⟩⟩
            have bad_ : isNm (lowT p) = false ∧ lowT p ≠ HERE → ∀ G6, Same G5 G6 → Q (.str "number") G6 := fun h G6 s6 => by
              rw [if_pos h] at hex
              have qz := q G6 (Same.trans s04 (Same.trans s5 s6))
              rw [hex] at qz
              exact qz
            cases hn : isNm (lowT p) with
            | true => exact itF rfl (iteF (key2 _ _ ⟨rfl, s5, fun h => by rw [hn] at h; cases h.1⟩))
            | false =>
              refine itT rfl ⟨_, rfl, rfl, mk p, rfl, rfl, hlp, ?_⟩
              rw [lower_mk p2]
              refine ⟨_, _, .str _, .str (mk HERE), str_shaped hlow, str_shaped (l := HERE) (show ∀ c ∈ HERE, 32 ≤ c ∧ c < 127 by decide), _, rfl, ?_⟩
              rw [str_eqv]
              by_cases hh : lowT p = HERE
              · exact itF (by rw [decide_eq_true hh]; rfl) (key2 _ _ ⟨rfl, s5, fun h => h.2 hh⟩)
              · exact itT (by rw [decide_eq_false hh]; rfl) (bad_ ⟨hn, hh⟩ _ (Same.refl _))
          rintro σ' G5 ⟨rfl, s5, hok⟩
          rw [if_neg hok] at hex key
          dsimp only
          obtain ⟨kvs, k1, k2, k3⟩ := (hN.same (Same.trans s04 s5))
          have hget : DGet G5 a (.str (mk (lowT p))) (valV kvs (.inr (mk (lowT p)))) := DGet.k (k := Sum.inr (mk (lowT p))) k1
          rw [k3] at hget
          refine sqT ?_
          refine ⟨_, rfl, rfl, mk p, rfl, rfl, hlp, ?_⟩
          rw [lower_mk p2]
          refine ⟨_, rfl, a, _, rfl, hget, _, rfl, ?_⟩
          cases hnm : nm (lowT p) with
          | none =>
            rw [hnm] at hex
            dsimp only at hex
            have qz := q G5 (Same.trans s04 s5)
            rw [hex] at qz
            exact itT rfl qz
          | some o =>
            rw [hnm] at hget key
            refine itF rfl (nextU ?_)
            dsimp only
            refine ⟨_, rfl, _, rfl, rfl, mk p, rfl, rfl, hlp, ?_⟩
            rw [lower_mk p2]
            refine ⟨a, _, rfl, hget, ?_⟩
            exact key _ _ ⟨o, rfl, s5, hB _ _ hnm, rfl⟩
      rintro σ' G5 ⟨o, rfl, s5, ho, hw⟩
      rw [hw] at hex
      dsimp only at hex
      have s05 := Same.trans s04 s5
      refine sqT ?_
      refine ⟨_, rfl, _, rfl, _, rfl, c, t, o, rfl, p1, ht, ho, fun G6 s6 => ?_⟩
      have s06 := Same.trans s05 s6
      have bad_ : onT t c o = .bad "number" → ∀ G7, Same G6 G7 → Q (.str "number") G7 := fun h G7 s7 => by
        rw [h] at hex
        have qz := q G7 (Same.trans s06 s7)
        rw [hex] at qz
        exact qz
      have s36 : Same G2 G6 := Same.trans s34 (Same.trans s5 s6)
      have n9 : (10 : Int) ^ (9 : Int).toNat = 1000000000 := by decide
      have cp : 0 ≤ (9 : Int) ∧ (9 : Int) ≤ 1000000 ∧ (10 : Int).natAbs < 2 ^ 64 := by decide
      by_cases hsh : (c = 60 ∨ c = 62) ∧ ¬ (0 ≤ o ∧ o ≤ 16)
      · rw [if_pos hsh]
        refine ⟨_, rfl, rfl, _, rfl, itT rfl (bad_ (if_pos hsh) _ (Same.refl _))⟩
      · rw [if_neg hsh]
        have hT : onT t c o = if -1000000000 ≤ sumS c t o ∧ sumS c t o ≤ 1000000000 then .ok (sumS c t o) else .bad "number" := if_neg hsh
        refine ⟨_, rfl, rfl, _, rfl, iteF ⟨_, _, rfl, rfl, cp, _, _, rfl, rfl, _, rfl, _, _, rfl, rfl, _, rfl, ?_⟩⟩
        rw [n9]
        by_cases c1 : -1000000000 ≤ sumS c t o
        · refine itT (decide_eq_true (show (0 : Int) - 1000000000 ≤ sumS c t o by omega)) ⟨_, _, rfl, rfl, cp, _, _, rfl, rfl, _, rfl, ?_⟩
          rw [n9]
          by_cases c2 : sumS c t o ≤ 1000000000
          · rw [if_pos ⟨c1, c2⟩] at hT
            rw [hT] at hex
            dsimp only at hex
            exact itF (by rw [decide_eq_true c2]; rfl) ⟨sumS c t o, _, _, _, rfl, s36, ⟨c1, c2⟩, hex⟩
          · exact itT (by rw [decide_eq_false c2]; rfl) (bad_ (by rw [hT, if_neg (fun h => c2 h.2)]) _ (Same.refl _))
        · refine itF (decide_eq_false (show ¬ (0 : Int) - 1000000000 ≤ sumS c t o by omega)) ⟨_, rfl, itT rfl (bad_ (by rw [hT, if_neg (fun h => c1 h.1)]) _ (Same.refl _))⟩
    · rintro σ G3 ⟨t, v4, v5, v6, rfl, s3, ht, hex⟩
      rw [hlv, List.drop_length, sumL] at hex
      have qz := q G3 (Same.trans s2 s3)
      rw [hex] at qz
      exact ⟨_, rfl, qz⟩
abbrev KnLSum (P : Program) (w : World) (K : PySem.W.Frag) (mg : Str → Option Value) (base : Heap) : Prop := Kn P w K mg base CX0 3 "_law_sum" ["_law_text", "_law_known"] [] (spLSum K)
end
end Bm
set_option maxHeartbeats 1000000
namespace Bm
open PySem PySem.Spec PyProof.Rows L2
/-- a plain sign that parts nothing -/
def Sgn (c : Nat) : Prop := 32 ≤ c ∧ c < 127 ∧ c ≠ 44 ∧ c ≠ 58 ∧ c ≠ 59
def SgT (l : Tx) : Prop := ∀ c ∈ l, Sgn c
instance : DecidablePred Sgn := fun c => by
  unfold Sgn
  infer_instance
theorem SgT.cl {l : Tx} (h : SgT l) : ClT l := fun c hc => ⟨(h c hc).1, (h c hc).2.1⟩
theorem SgT.app {l m : Tx} (h : SgT l) (k : SgT m) : SgT (l ++ m) := fun c hc => (List.mem_append.mp hc).elim (h c) (k c)
theorem pick_text (L : Tx) {n : Int} (h0 : 0 ≤ n) (h1 : n < L.length) : ∃ c, atI (mk L).cps.toList n = some c ∧ c ∈ L := by
  obtain ⟨k, rfl⟩ := Int.eq_ofNat_of_zero_le h0
  have hk : k < L.length := by omega
  refine ⟨L[k], ?_, List.getElem_mem hk⟩
  rw [mk_toList]
  exact atI_nat (List.getElem?_eq_getElem hk)
theorem spoil_signs : ∀ c ∈ sg "0123456789abcdefxr+-*&|^<>' zAZ_.!#", Sgn c := by decide +kernel
theorem spoil_len : (sg "0123456789abcdefxr+-*&|^<>' zAZ_.!#").length = 35 := by decide +kernel
theorem int_sgn (i : Int) : SgT (sg (PySem.Str.ofString (toString i))) := fun c hc => by
  by_cases e : c ≠ 45 ∧ (c < 48 ∨ 57 < c)
  · exact absurd hc (int_text_free' c e i)
  · unfold Sgn
    omega
theorem int_short {i : Int} (h : i.natAbs < 100000) : (sg (PySem.Str.ofString (toString i))).length ≤ 6 := by
  have := int_text_length_le10 (a := i) (k := 5) (by decide) h
  rw [sg_len, PySem.ofString_length]
  exact this
theorem int_mk (i : Int) : PySem.Str.ofString (toString i) = mk (sg (PySem.Str.ofString (toString i))) := (mk_sg _).symm
theorem hex_signs : ∀ c ∈ sg "0123456789abcDEF", Sgn c := by decide +kernel
theorem let_signs : ∀ c ∈ sg "azAZkq", Sgn c := by decide +kernel
theorem op_signs : ∀ c ∈ sg " + - * & | ^ < > ", Sgn c := by decide +kernel
theorem repS_mk (l : Tx) (n : Nat) : repS (mk l) n = mk ((List.replicate n l).flatten) := by
  unfold repS
  rw [sg_mk]
theorem rep_sgt {l : Tx} (h : SgT l) : ∀ n : Nat, SgT ((List.replicate n l).flatten)
  | 0 => fun d hd => (nomatch hd)
  | n + 1 => by
    rw [List.replicate_succ, List.flatten_cons]
    exact h.app (rep_sgt h n)
theorem one_mk (c : Nat) : (⟨#[c]⟩ : Str) = mk [c] := rfl
section
variable {P : Program} {w : World} {K : PySem.W.Frag} {mg : Str → Option Value} {base : Heap} {f : Addr} {fd : FuncData} {dvs : List V}
abbrev KnDrw (P : Program) (w : World) (K : PySem.W.Frag) (mg : Str → Option Value) (base : Heap) : Prop := Kn P w K mg base CX0 1 "_law_drawn" ["_law_state", "_law_many"] [] (spDrawn K)
def spSome (K : PySem.W.Frag) : Sp := fun vs H Q _ => ∃ (S : Sk) (a : Addr) (ks : List Tx), vs = [.ref S.st, .ref a] ∧ St K H S ∧ H a = some (.lst (vTx ks)) ∧ a ≠ S.st ∧ (∀ k ∈ ks, SgT k ∧ k.length ≤ 8) ∧ ks.length ≤ 10 ∧ ∀ l H', Kp K S H H' → SgT l → l.length ≤ 60 → Q (.str (mk l)) H'
abbrev N__law_some_sum : List Str := ["_law_state", "_law_known", "_law_found", "_law_k", "_law_number", "_law_some", "_law_sign", "_law_ahead"]
theorem sc__law_some_sum : FnScope ["_law_state", "_law_known", "_law_found", "_law_k", "_law_number", "_law_some", "_law_sign", "_law_ahead"] ["_law_state", "_law_known"] (defScope s__law_some_sum) := ⟨rfl, rfl, rfl, by decide +kernel, rfl, by decide +kernel, by decide +kernel⟩
theorem ok_some (F : FnP K "_law_some_sum" s__law_some_sum dvs f fd) (k__law_drawn : KnDrw P w K mg base) (g_len : mg "len" = none) (g_range : mg "range" = none) (g_int : mg "int" = none) (g_str : mg "str" = none) : FnOk P w K mg base CX0 2 f fd ["_law_state", "_law_known"] (spSome K) := by
  refine F.ok sc__law_some_sum (fun vs H Q E h => ?_) (fun cdv A outer s H vs Q E hr h => ?_)
  · obtain ⟨S, a, ks, rfl, _⟩ := h
    rfl
  · obtain ⟨S, a, ks, rfl, hst, ha, nas, hks, hkl, q⟩ := h
    refine ⟨_, PSs.nox (pss_cons (ps_set (i := 2) sc__law_some_sum.nd rfl (Or.inl rfl) (pe_ix ix_list (pe_lst (pa_cons pe_str (pa_cons pe_str (pa_cons pe_str pa_nil)))) (pk k__law_drawn hr (by decide) rfl pass0 (pa_cons (pv 0) (pa_cons pe_int pa_nil))) (fun _ _ => rfl)))
      (pss_cons (ps_for PassesOwn.never rfl (pi_range1 rfl g_range (pa_cons (pe_ix ix_list (pe_lst (pa_cons pe_int (pa_cons pe_int (pa_cons pe_int (pa_cons pe_int pa_nil))))) (pk k__law_drawn hr (by decide) rfl pass0 (pa_cons (pv 0) (pa_cons pe_int pa_nil))) (fun _ _ => rfl)) pa_nil)) (pg_name (i := 3) sc__law_some_sum.nd rfl (Or.inl rfl))
      (pss_cons (ps_set (i := 4) sc__law_some_sum.nd rfl (Or.inl rfl) (pk k__law_drawn hr (by decide) rfl pass0 (pa_cons (pv 0) (pa_cons (pe_ix ix_list (pe_lst (pa_cons pe_int (pa_cons pe_int (pa_cons pe_int pa_nil)))) (pk k__law_drawn hr (by decide) rfl pass0 (pa_cons (pv 0) (pa_cons pe_int pa_nil))) (fun _ _ => rfl)) pa_nil))))
      (pss_cons (ps_set (i := 5) sc__law_some_sum.nd rfl (Or.inl rfl) (pe_lst (pa_cons (pe_callTy call_str_int rfl g_str (by decide +kernel) (pa_cons (pv 4) pa_nil)) (pa_cons (pe_op op_add_str (pe_op op_add_str pe_str (pe_ix ix_str pe_str (pe_op op_modN (pv 4) pe_int) (fun _ _ => rfl))) (pe_slice sl_str pe_str po_none (po_some (pe_op op_modN (pv 4) pe_int)))) (pa_cons (pe_op op_add_str pe_str (pe_callTy call_str_int rfl g_str (by decide +kernel) (pa_cons (pe_op op_modN (pv 4) pe_int) pa_nil))) (pa_cons pe_str pa_nil))))))
      (pss_cons (ps_set (i := 5) sc__law_some_sum.nd rfl (Or.inl rfl) (pe_op op_cat (pe_op op_cat (pv 5) (pe_lst (pa_cons (pe_op op_add_str pe_str (pe_ix ix_str pe_str (pe_op op_modN (pv 4) pe_int) (fun _ _ => rfl))) (pa_cons (pe_callTy call_str_int rfl g_str (by decide +kernel) (pa_cons (pv 4) pa_nil)) pa_nil)))) (pv 1)))
      (pss_cons (ps_set (i := 6) sc__law_some_sum.nd rfl (Or.inl rfl) (pe_ix ix_str pe_str (pe_op op_add (pe_op op_mul pe_int (pk k__law_drawn hr (by decide) rfl pass0 (pa_cons (pv 0) (pa_cons pe_int pa_nil)))) pe_int) (fun _ _ => rfl)))
      (pss_cons (ps_set (i := 7) sc__law_some_sum.nd rfl (Or.inl rfl) (pe_op op_repS (pe_op op_add_str (pe_op op_repS pe_str (pk k__law_drawn hr (by decide) rfl pass0 (pa_cons (pv 0) (pa_cons pe_int pa_nil)))) (pv 6)) (pe_callTy call_int1 rfl g_int (by decide +kernel) (pa_cons (pe_cmpR op_gt (pv 3) pe_int (nomark _)) pa_nil))))
      (pss_one (ps_set (i := 2) sc__law_some_sum.nd rfl (Or.inl rfl) (pe_op op_add_str (pe_op op_add_str (pv 2) (pv 7)) (pe_ix ix_list (pv 5) (pk k__law_drawn hr (by decide) rfl pass0 (pa_cons (pv 0) (pa_cons (pe_callB call_len rfl g_len boot_len (pa_cons (pv 5) pa_nil)) pa_nil))) (fun _ _ => rfl)))))))))))
      (pss_one (ps_ret (pv 2))))), ?_⟩
    have eE : ("" : Str) = mk [] := rfl
    have eM : ("-" : Str) = mk [45] := rfl
    refine sqT ?_
    refine ⟨line5 (by simp), fun L1 hL1 => ?_⟩
    have nL1 : L1 ≠ S.st := by
      obtain ⟨z, hz⟩ := hst.lst
      exact ne_of_free hz hL1
    have s1 : Same H (upd H L1 (.lst [V.str "", V.str "", V.str "-"])) := Same.add hL1
    have e1 : (upd H L1 (.lst [V.str "", V.str "", V.str "-"])) L1 = some (.lst [V.str "", V.str "", V.str "-"]) := upd_same
    generalize upd H L1 (.lst [V.str "", V.str "", V.str "-"]) = H1 at s1 e1 ⊢
    have k1 := (Kp.refl hst).same s1
    refine ⟨_, rfl, S, 3, rfl, k1.st, by decide, by decide, fun r H2 r0 r1 k2 => ?_⟩
    have k02 := k1.trans k2
    obtain ⟨f0, hf1, hf2, hf3⟩ : ∃ f0 : Tx, atI [V.str "", V.str "", V.str "-"] r = some (.str (mk f0)) ∧ SgT f0 ∧ f0.length ≤ 1 := by
      have e : r = 0 ∨ r = 1 ∨ r = 2 := by omega
      rcases e with rfl | rfl | rfl
      · exact ⟨[], atI_nat (j := 0) rfl, fun d hd => (nomatch hd), Nat.zero_le _⟩
      · exact ⟨[], atI_nat (j := 1) rfl, fun d hd => (nomatch hd), Nat.zero_le _⟩
      · exact ⟨[45], atI_nat (j := 2) rfl, (fun c hc => by rw [List.mem_singleton.mp hc]; decide : SgT [45]), Nat.le_refl _⟩
    refine ⟨L1, _, _, _, rfl, rfl, SqL.of (k2.but _ _ nL1 e1), hf1, ?_⟩
    dsimp only [gName, List.set]
    refine sqT ?_
    refine ⟨line5 (by simp), fun L2 hL2 => ?_⟩
    have nL2 : L2 ≠ S.st := by
      obtain ⟨z, hz⟩ := k2.st.lst
      exact ne_of_free hz hL2
    have s3 : Same H2 (upd H2 L2 (.lst [V.int 1, V.int 1, V.int 2, V.int 5])) := Same.add hL2
    have e3 : (upd H2 L2 (.lst [V.int 1, V.int 1, V.int 2, V.int 5])) L2 = some (.lst [V.int 1, V.int 1, V.int 2, V.int 5]) := upd_same
    generalize upd H2 L2 (.lst [V.int 1, V.int 1, V.int 2, V.int 5]) = H3 at s3 e3 ⊢
    have k03 := k02.same s3
    refine ⟨_, rfl, S, 4, rfl, k03.st, by decide, by decide, fun r2 H4 r20 r21 k4 => ?_⟩
    have k04 := k03.trans k4
    obtain ⟨m, hm1, hm2⟩ : ∃ m : Nat, atI [V.int 1, V.int 1, V.int 2, V.int 5] r2 = some (.int (m : Nat)) ∧ m ≤ 5 := by
      have e : r2 = 0 ∨ r2 = 1 ∨ r2 = 2 ∨ r2 = 3 := by omega
      rcases e with rfl | rfl | rfl | rfl
      · exact ⟨1, atI_nat (j := 0) rfl, by decide⟩
      · exact ⟨1, atI_nat (j := 1) rfl, by decide⟩
      · exact ⟨2, atI_nat (j := 2) rfl, by decide⟩
      · exact ⟨5, atI_nat (j := 3) rfl, by decide⟩
    refine ⟨L2, _, _, _, rfl, rfl, SqL.of (k4.but _ _ nL2 e3), hm1, _, rfl, by omega, by omega, ?_⟩
    rw [Int.toNat_natCast]
    have ha4 : H4 a = some (.lst (vTx ks)) := k4.but _ _ nas (s3 _ _ (k2.but _ _ nas (s1 _ _ ha)))
    refine for_it walk_range (fun k σ G => ∃ (F : Tx) (v3 v4 v5 v6 v7 : Option V), σ = [some (.ref S.st), some (.ref a), some (.str (mk F)), v3, v4, v5, v6, v7] ∧ Kp K S H4 G ∧ SgT F ∧ F.length ≤ 1 + 10 * k) ⟨f0, none, none, none, none, none, rfl, Kp.refl k4.st, hf2, by omega⟩ (fun _ _ _ _ _ => trivial) ?_ ?_
    · rintro k z σ G G' hk ⟨F, v3, v4, v5, v6, v7, rfl, kG, hF, hFl⟩ ⟨eH, eX⟩
      have eX : z = .int ((k : Nat) : Int) := eX.trans (congrArg V.int (by omega))
      rw [eH, eX]
      have haG : G a = some (.lst (vTx ks)) := kG.but _ _ nas ha4
      dsimp only [gName, List.set]
      refine sqT ?_
      refine ⟨_, rfl, line5 (by simp), fun L3 hL3 => ?_⟩
      have nL3 : L3 ≠ S.st := by
        obtain ⟨z, hz⟩ := kG.st.lst
        exact ne_of_free hz hL3
      have s5 : Same G (upd G L3 (.lst [V.int 4, V.int 30, V.int 70000])) := Same.add hL3
      have e5 : (upd G L3 (.lst [V.int 4, V.int 30, V.int 70000])) L3 = some (.lst [V.int 4, V.int 30, V.int 70000]) := upd_same
      generalize upd G L3 (.lst [V.int 4, V.int 30, V.int 70000]) = G1 at s5 e5 ⊢
      have kG1 := kG.same s5
      refine ⟨_, rfl, S, 3, rfl, kG1.st, by decide, by decide, fun r5 G2 r50 r51 k5 => ?_⟩
      obtain ⟨mm, hmm1, hmm2, hmm3⟩ : ∃ mm : Int, atI [V.int 4, V.int 30, V.int 70000] r5 = some (.int mm) ∧ 0 < mm ∧ mm ≤ 70000 := by
        have e : r5 = 0 ∨ r5 = 1 ∨ r5 = 2 := by omega
        rcases e with rfl | rfl | rfl
        · exact ⟨4, atI_nat (j := 0) rfl, by decide, by decide⟩
        · exact ⟨30, atI_nat (j := 1) rfl, by decide, by decide⟩
        · exact ⟨70000, atI_nat (j := 2) rfl, by decide, by decide⟩
      have kG2 := kG1.trans k5
      refine ⟨L3, _, _, _, rfl, rfl, SqL.of (k5.but _ _ nL3 e5), hmm1, S, mm, rfl, kG2.st, hmm2, by omega, fun nb G3 nb0 nb1 k6 => ?_⟩
      have kG3 := kG2.trans k6
      obtain ⟨n, rfl⟩ := Int.eq_ofNat_of_zero_le nb0
      have hn : n < 70000 := by omega
      dsimp only [gName, List.set]
      refine sqT ?_
      have fm : ∀ d : Nat, 0 < d → ((n : Nat) : Int).fmod (d : Nat) = ((n % d : Nat) : Int) := fun d hd => by
        rw [Int.fmod_eq_emod_of_nonneg _ (by omega)]
        omega
      have f16 : ((n : Nat) : Int).fmod 16 = ((n % 16 : Nat) : Int) := fm 16 (by decide)
      have f2 : ((n : Nat) : Int).fmod 2 = ((n % 2 : Nat) : Int) := fm 2 (by decide)
      have f6 : ((n : Nat) : Int).fmod 6 = ((n % 6 : Nat) : Int) := fm 6 (by decide)
      have z16 : (16 : Int) ≠ 0 := by decide
      have z2 : (2 : Int) ≠ 0 := by decide
      have z6 : (6 : Int) ≠ 0 := by decide
      have eHex : ("0123456789abcDEF" : Str) = mk (sg "0123456789abcDEF") := (mk_sg _).symm
      have eLet : ("azAZkq" : Str) = mk (sg "azAZkq") := (mk_sg _).symm
      have e4 : ("4" : Str) = mk [52] := rfl
      have e0x : ("0x" : Str) = mk [48, 120] := rfl
      have e0b : ("0b1" : Str) = mk [48, 98, 49] := rfl
      have eAp : ("'" : Str) = mk [39] := rfl
      have hexl : (sg "0123456789abcDEF").length = 16 := by decide +kernel
      have letl : (sg "azAZkq").length = 6 := by decide +kernel
      obtain ⟨ch, hch1, hch2⟩ := pick_text (sg "0123456789abcDEF") (n := ((n % 16 : Nat) : Int)) (by omega) (by rw [hexl]; omega)
      obtain ⟨cl, hcl1, hcl2⟩ := pick_text (sg "azAZkq") (n := ((n % 6 : Nat) : Int)) (by omega) (by rw [letl]; omega)
      have sh1 := hex_signs ch hch2
      have sl1 := let_signs cl hcl2
      have hs1 := int_sgn ((n : Nat) : Int)
      have hl1 : (sg (PySem.Str.ofString (toString ((n : Nat) : Int)))).length ≤ 6 := int_short (by omega)
      have hs2 := int_sgn ((n % 2 : Nat) : Int)
      have hl2 : (sg (PySem.Str.ofString (toString ((n % 2 : Nat) : Int)))).length ≤ 1 := by
        have e : n % 2 = 0 ∨ n % 2 = 1 := by omega
        rcases e with e | e <;> rw [e] <;> decide +kernel
      rw [eHex, e4, e0x, e0b]
      refine ⟨_, rfl, _, rfl, small_lg (by omega), _, rfl, _, _, rfl, rfl, z16, ?_⟩
      dsimp only
      rw [f16]
      have ln : ∀ (x y : Tx), x.length + y.length ≤ 200000 - 1 → (mk x).length + (mk y).length ≤ sizeLine := fun x y h => by
        rw [mk_len, mk_len]
        exact Nat.le_of_lt (lineT (by omega))
      refine ⟨_, _, ch, rfl, rfl, str_line (by rw [hexl]; decide), hch1, ?_⟩
      rw [one_mk]
      refine ⟨_, _, rfl, rfl, ln _ _ (show 2 + 1 ≤ _ by decide), ?_⟩
      rw [mk_app]
      unfold tNoPart
      refine ⟨_, rfl, _, _, rfl, rfl, z2, ?_⟩
      dsimp only
      rw [f2]
      refine ⟨_, rfl, mk [52], rfl, str_line (show 1 ≤ 50000 by decide), ?_⟩
      rw [cutS_to]
      have t4l : ([52].take (n % 2)).length ≤ 1 := List.length_take_le' ..
      refine ⟨_, _, rfl, rfl, ln _ _ (by simp only [List.length_append, List.length_cons, List.length_nil] at t4l ⊢; omega), ?_⟩
      rw [mk_app]
      refine ⟨_, rfl, _, _, rfl, rfl, z2, ?_⟩
      dsimp only
      rw [f2]
      refine ⟨_, rfl, small_lg (by omega), ?_⟩
      rw [int_mk ((n % 2 : Nat) : Int)]
      refine ⟨_, _, rfl, rfl, ln _ _ (by simp only [List.length_cons, List.length_nil]; omega), ?_⟩
      rw [mk_app]
      refine ⟨line5 (by simp), fun L4 hL4 => ?_⟩
      rw [int_mk ((n : Nat) : Int)]
      have eT1 := int_mk ((n : Nat) : Int)
      generalize sg (PySem.Str.ofString (toString ((n : Nat) : Int))) = T1 at hs1 hl1 eT1 ⊢
      generalize sg (PySem.Str.ofString (toString ((n % 2 : Nat) : Int))) = T2 at hs2 hl2 ⊢
      have eH : [V.str (mk T1), V.str (mk ([48, 120] ++ [ch] ++ [52].take (n % 2))), V.str (mk ([48, 98, 49] ++ T2)), V.str "here"] = vTx [T1, [48, 120] ++ [ch] ++ [52].take (n % 2), [48, 98, 49] ++ T2, HERE] := rfl
      rw [eH]
      obtain ⟨A4, hA4, hA4l, hA4s⟩ : ∃ A : List Tx, A = [T1, [48, 120] ++ [ch] ++ [52].take (n % 2), [48, 98, 49] ++ T2, HERE] ∧ A.length = 4 ∧ ∀ x ∈ A, SgT x ∧ x.length ≤ 8 := by
        refine ⟨_, rfl, rfl, fun x hx => ?_⟩
        simp only [List.mem_cons, List.not_mem_nil, or_false] at hx
        rcases hx with rfl | rfl | rfl | rfl
        · exact ⟨hs1, by omega⟩
        · refine ⟨SgT.app (SgT.app (l := [48, 120]) (m := [ch]) (fun c hc => ?_) fun c hc => ?_) fun c hc => ?_, by simp only [List.length_append, List.length_cons, List.length_nil] at t4l ⊢; omega⟩
          · simp only [List.mem_cons, List.not_mem_nil, or_false] at hc
            rcases hc with rfl | rfl <;> decide
          · rw [List.mem_singleton.mp hc]; exact sh1
          · have := List.mem_of_mem_take hc
            rw [List.mem_singleton.mp this]; decide
        · refine ⟨SgT.app (l := [48, 98, 49]) (fun c hc => ?_) hs2, by simp only [List.length_append, List.length_cons, List.length_nil]; omega⟩
          simp only [List.mem_cons, List.not_mem_nil, or_false] at hc
          rcases hc with rfl | rfl | rfl <;> decide
        · refine ⟨fun c hc => ?_, by decide⟩
          simp only [HERE, List.mem_cons, List.not_mem_nil, or_false] at hc
          rcases hc with rfl | rfl | rfl | rfl <;> decide
      rw [← hA4]
      clear hA4 eH
      have nL4 : L4 ≠ S.st := by
        obtain ⟨z, hz⟩ := kG3.st.lst
        exact ne_of_free hz hL4
      have s6 : Same G3 (upd G3 L4 (.lst (vTx A4))) := Same.add hL4
      have e6 : (upd G3 L4 (.lst (vTx A4))) L4 = some (.lst (vTx A4)) := upd_same
      generalize upd G3 L4 (.lst (vTx A4)) = G4 at s6 e6 ⊢
      have kG4 := kG3.same s6
      have haG4 : G4 a = some (.lst (vTx ks)) := kG4.but _ _ nas ha4
      dsimp only [gName, List.set]
      refine sqT ?_
      rw [eLet, eAp]
      refine ⟨_, rfl, _, rfl, _, _, rfl, rfl, z6, ?_⟩
      dsimp only
      rw [f6]
      refine ⟨_, _, cl, rfl, rfl, str_line (by rw [letl]; decide), hcl1, ?_⟩
      rw [one_mk]
      refine ⟨_, _, rfl, rfl, ln _ _ (show 1 + 1 ≤ _ by decide), ?_⟩
      rw [mk_app]
      refine ⟨_, rfl, _, rfl, small_lg (by omega), line5 (by simp), fun L5 hL5 => ?_⟩
      rw [eT1]
      have eH2 : [V.str (mk ([39] ++ [cl])), V.str (mk T1)] = vTx [[39] ++ [cl], T1] := rfl
      rw [eH2]
      have nL5 : L5 ≠ S.st := by
        obtain ⟨z, hz⟩ := kG4.st.lst
        exact ne_of_free hz hL5
      have s7 : Same G4 (upd G4 L5 (.lst (vTx [[39] ++ [cl], T1]))) := Same.add hL5
      have e7 : (upd G4 L5 (.lst (vTx [[39] ++ [cl], T1]))) L5 = some (.lst (vTx [[39] ++ [cl], T1])) := upd_same
      generalize upd G4 L5 (.lst (vTx [[39] ++ [cl], T1])) = G5 at s7 e7 ⊢
      have kG5 := kG4.same s7
      have lks : (vTx ks).length = ks.length := by unfold vTx; rw [List.length_map]
      have lA4 : (vTx A4).length = 4 := by unfold vTx; rw [List.length_map]; exact hA4l
      refine ⟨L4, L5, _, _, rfl, rfl, s7 _ _ e6, e7, Nat.le_of_lt (lineT (by rw [lA4]; exact (by decide : 4 + 2 ≤ 200000))), fun L6 hL6 => ?_⟩
      have eH3 : vTx A4 ++ vTx [[39] ++ [cl], T1] = vTx (A4 ++ [[39] ++ [cl], T1]) := by unfold vTx; rw [List.map_append]
      rw [eH3]
      have nL6 : L6 ≠ S.st := by
        obtain ⟨z, hz⟩ := kG5.st.lst
        exact ne_of_free hz hL6
      have s8 : Same G5 (upd G5 L6 (.lst (vTx (A4 ++ [[39] ++ [cl], T1])))) := Same.add hL6
      have e8 : (upd G5 L6 (.lst (vTx (A4 ++ [[39] ++ [cl], T1])))) L6 = some (.lst (vTx (A4 ++ [[39] ++ [cl], T1]))) := upd_same
      generalize upd G5 L6 (.lst (vTx (A4 ++ [[39] ++ [cl], T1]))) = G6 at s8 e8 ⊢
      have kG6 := kG5.same s8
      have haG6 : G6 a = some (.lst (vTx ks)) := kG6.but _ _ nas ha4
      have lA6 : (vTx (A4 ++ [[39] ++ [cl], T1])).length = 6 := by unfold vTx; rw [List.length_map, List.length_append, hA4l]; rfl
      refine ⟨_, rfl, L6, a, _, _, rfl, rfl, e8, haG6, Nat.le_of_lt (lineT (by rw [lA6, lks]; omega)), fun L7 hL7 => ?_⟩
      have eH4 : vTx (A4 ++ [[39] ++ [cl], T1]) ++ vTx ks = vTx (A4 ++ [[39] ++ [cl], T1] ++ ks) := by unfold vTx; rw [List.map_append (l₂ := ks)]
      rw [eH4]
      obtain ⟨A, hA, hAl, hAs⟩ : ∃ A : List Tx, A = A4 ++ [[39] ++ [cl], T1] ++ ks ∧ (0 < A.length ∧ A.length ≤ 16) ∧ ∀ x ∈ A, SgT x ∧ x.length ≤ 8 := by
        refine ⟨_, rfl, ?_, fun x hx => ?_⟩
        · rw [List.length_append, List.length_append, hA4l]
          simp only [List.length_cons, List.length_nil]
          omega
        · rcases List.mem_append.mp hx with hx | hx
          · rcases List.mem_append.mp hx with hx | hx
            · exact hA4s x hx
            · simp only [List.mem_cons, List.not_mem_nil, or_false] at hx
              rcases hx with rfl | rfl
              · refine ⟨SgT.app (l := [39]) (m := [cl]) (fun c hc => ?_) fun c hc => ?_, (by decide : 2 ≤ 8)⟩
                · rw [List.mem_singleton.mp hc]; decide
                · rw [List.mem_singleton.mp hc]; exact sl1
              · exact ⟨hs1, by omega⟩
          · exact hks x hx
      rw [← hA]
      clear hA eH2 eH3 eH4 e6 e7 e8
      have nL7 : L7 ≠ S.st := by
        obtain ⟨z, hz⟩ := kG6.st.lst
        exact ne_of_free hz hL7
      have s9 : Same G6 (upd G6 L7 (.lst (vTx A))) := Same.add hL7
      have e9 : (upd G6 L7 (.lst (vTx A))) L7 = some (.lst (vTx A)) := upd_same
      generalize upd G6 L7 (.lst (vTx A)) = G7 at s9 e9 ⊢
      have kG7 := kG6.same s9
      dsimp only [gName, List.set]
      refine sqT ?_
      have eOp : (" + - * & | ^ < > " : Str) = mk (sg " + - * & | ^ < > ") := (mk_sg _).symm
      have opl : (sg " + - * & | ^ < > ").length = 17 := by decide +kernel
      rw [eOp]
      refine ⟨_, rfl, S, 8, rfl, kG7.st, by decide, by decide, fun r7 G8 r70 r71 k8 => ?_⟩
      have kG8 := kG7.trans k8
      refine ⟨_, _, rfl, rfl, .inl ⟨by decide, by decide⟩, _, _, rfl, rfl, ?_⟩
      dsimp only
      obtain ⟨co, hco1, hco2⟩ := pick_text (sg " + - * & | ^ < > ") (n := 2 * r7 + 1) (by omega) (by rw [opl]; omega)
      have so1 := op_signs co hco2
      refine ⟨_, _, co, rfl, rfl, str_line (by rw [opl]; decide), hco1, ?_⟩
      rw [one_mk]
      dsimp only [gName, List.set]
      refine sqT ?_
      have eSp : (" " : Str) = mk [32] := rfl
      rw [eSp]
      refine ⟨_, rfl, S, 2, rfl, kG8.st, by decide, by decide, fun r8 G9 r80 r81 k9 => ?_⟩
      have kG9 := kG8.trans k9
      refine ⟨_, _, rfl, rfl, by omega, by omega, by decide, ?_⟩
      rw [repS_mk]
      have lsp : ((List.replicate r8.toNat [32]).flatten).length ≤ 1 := by
        have e : r8 = 0 ∨ r8 = 1 := by omega
        rcases e with rfl | rfl <;> decide
      have ssp : SgT ((List.replicate r8.toNat [32]).flatten) := rep_sgt (fun c hc => by rw [List.mem_singleton.mp hc]; decide) _
      generalize (List.replicate r8.toNat [32]).flatten = SP at lsp ssp ⊢
      refine ⟨_, rfl, _, _, rfl, rfl, ln _ _ (by simp only [List.length_cons, List.length_nil]; omega), ?_⟩
      rw [mk_app]
      refine ⟨_, rfl, _, _, rfl, rfl, .inr ⟨_, rfl, _, _, rfl, rfl, ?_, ?_, ?_, ?_⟩⟩
      · split <;> decide
      · split <;> decide
      · rw [mk_len, List.length_append]
        simp only [List.length_cons, List.length_nil]
        omega
      rw [repS_mk]
      obtain ⟨AH, hAH, hAHs, hAHl⟩ : ∃ AH : Tx, (List.replicate (Int.toNat (if decide ((0 : Int) < (k : Int)) = true then 1 else 0)) (SP ++ [co])).flatten = AH ∧ SgT AH ∧ AH.length ≤ 2 := by
        refine ⟨_, rfl, rep_sgt (SgT.app ssp fun c hc => by rw [List.mem_singleton.mp hc]; exact so1) _, ?_⟩
        split
        · show ((SP ++ [co]) ++ []).length ≤ 2
          rw [List.append_nil, List.length_append]
          simp only [List.length_cons, List.length_nil]
          omega
        · exact Nat.zero_le _
      rw [hAH]
      dsimp only [gName, List.set]
      have hL9 : G9 L7 = some (.lst (vTx A)) := k9.but _ _ nL7 (k8.but _ _ nL7 e9)
      have lA : (vTx A).length = A.length := by unfold vTx; rw [List.length_map]
      refine ⟨_, rfl, _, rfl, _, _, rfl, rfl, ln _ _ (by omega), ?_⟩
      rw [mk_app]
      refine ⟨_, rfl, _, rfl, _, rfl, _, _, rfl, .inl ⟨_, SqL.of hL9, rfl⟩, S, _, rfl, kG9.st, by rw [lA]; omega, by rw [lA]; omega, fun r9 GA r90 r91 ka => ?_⟩
      rw [lA] at r91
      obtain ⟨j, rfl⟩ := Int.eq_ofNat_of_zero_le r90
      have hj : j < A.length := by omega
      obtain ⟨x1, x2⟩ := hAs A[j] (List.getElem_mem hj)
      have hat : atI (vTx A) ((j : Nat) : Int) = some (.str (mk A[j])) := atI_nat (by unfold vTx; rw [List.getElem?_map, List.getElem?_eq_getElem hj]; rfl)
      refine ⟨L7, _, _, _, rfl, rfl, SqL.of (ka.but _ _ nL7 hL9), hat, _, _, rfl, rfl, ln _ _ (by rw [List.length_append]; omega), ?_⟩
      rw [mk_app]
      exact ⟨F ++ AH ++ A[j], _, _, _, _, _, rfl, kG9.trans ka, SgT.app (SgT.app hF hAHs) x1, by rw [List.length_append, List.length_append]; omega⟩
    · rintro σ G ⟨F, v3, v4, v5, v6, v7, rfl, kG, hF, hFl⟩
      exact ⟨_, rfl, q F G (k04.trans kG) hF (by omega)⟩
abbrev KnSome (P : Program) (w : World) (K : PySem.W.Frag) (mg : Str → Option Value) (base : Heap) : Prop := Kn P w K mg base CX0 2 "_law_some_sum" ["_law_state", "_law_known"] [] (spSome K)
def spSpoil (K : PySem.W.Frag) : Sp := fun vs H Q _ => ∃ (S : Sk) (l : Tx), vs = [.ref S.st, .str (mk l)] ∧ St K H S ∧ SgT l ∧ l.length ≤ 100 ∧ ∀ l' H', Kp K S H H' → SgT l' → l'.length ≤ l.length + 1 → Q (.str (mk l')) H'
abbrev N__law_spoilt : List Str := ["_law_state", "_law_text", "_law_signs", "_law_at", "_law_way", "_law_sign"]
theorem sc__law_spoilt : FnScope ["_law_state", "_law_text", "_law_signs", "_law_at", "_law_way", "_law_sign"] ["_law_state", "_law_text"] (defScope s__law_spoilt) := ⟨rfl, rfl, rfl, by decide +kernel, rfl, by decide +kernel, by decide +kernel⟩
theorem ok_spoil (F : FnP K "_law_spoilt" s__law_spoilt dvs f fd) (k__law_drawn : KnDrw P w K mg base) (g_len : mg "len" = none) (g_int : mg "int" = none) : FnOk P w K mg base CX0 2 f fd ["_law_state", "_law_text"] (spSpoil K) := by
  refine F.ok sc__law_spoilt (fun vs H Q E h => ?_) (fun cdv A outer s H vs Q E hr h => ?_)
  · obtain ⟨S, l, rfl, _⟩ := h
    rfl
  · obtain ⟨S, l, rfl, hst, hl, hll, q⟩ := h
    refine ⟨_, PSs.nox (pss_cons (ps_set (i := 2) sc__law_spoilt.nd rfl (Or.inl rfl) pe_str)
      (pss_cons (ps_par (i := 3) (j := 4) rfl sc__law_spoilt.nd rfl rfl (by decide) rfl rfl (pa_cons (pk k__law_drawn hr (by decide) rfl pass0 (pa_cons (pv 0) (pa_cons (pe_op op_add (pe_callB call_len rfl g_len boot_len (pa_cons (pv 1) pa_nil)) pe_int) pa_nil))) (pa_cons (pk k__law_drawn hr (by decide) rfl pass0 (pa_cons (pv 0) (pa_cons pe_int pa_nil))) pa_nil)) rfl)
      (pss_cons (ps_set (i := 5) sc__law_spoilt.nd rfl (Or.inl rfl) (pe_ix ix_str (pv 2) (pk k__law_drawn hr (by decide) rfl pass0 (pa_cons (pv 0) (pa_cons pe_int pa_nil))) (fun _ _ => rfl)))
      (pss_one (ps_ret (pe_op op_add_str (pe_op op_add_str (pe_slice sl_str (pv 1) po_none (po_some (pv 3))) (pe_ix ix_list (pe_lst (pa_cons (pv 5) (pa_cons pe_str (pa_cons (pv 5) pa_nil)))) (pv 4) (fun _ _ => rfl))) (pe_slice sl_str (pv 1) (po_some (pe_op op_add (pv 3) (pe_callTy call_int1 rfl g_int (by decide +kernel) (pa_cons (pe_cmpR op_gt (pv 4) pe_int (nomark _)) pa_nil)))) po_none))))))), ?_⟩
    have eS : ("0123456789abcdefxr+-*&|^<>' zAZ_.!#" : Str) = mk (sg "0123456789abcdefxr+-*&|^<>' zAZ_.!#") := (mk_sg _).symm
    have eE : ("" : Str) = mk [] := rfl
    refine sqT (asgC (x := V.str "0123456789abcdefxr+-*&|^<>' zAZ_.!#") ?_)
    dsimp only [List.set]
    refine sqT ?_
    refine ⟨_, rfl, _, rfl, _, _, rfl, ⟨str_line (by omega), rfl⟩, _, _, rfl, rfl, S, _, rfl, hst, by rw [mk_len]; omega, by rw [mk_len]; omega, fun r1 H1 r10 r11 k1 => ?_⟩
    rw [mk_len] at r11
    obtain ⟨at_, rfl⟩ := Int.eq_ofNat_of_zero_le r10
    refine ⟨_, rfl, S, 3, rfl, k1.st, by decide, by decide, fun r2 H2 r20 r21 k2 => ⟨_, _, rfl, ?_⟩⟩
    have k02 := k1.trans k2
    dsimp only
    refine sqT ?_
    refine ⟨_, rfl, _, rfl, S, 35, rfl, k2.st, by decide, by decide, fun r3 H3 r30 r31 k3 => ?_⟩
    have k03 := k02.trans k3
    rw [eS]
    obtain ⟨c, hc1, hc2⟩ := pick_text (sg "0123456789abcdefxr+-*&|^<>' zAZ_.!#") r30 (by rw [spoil_len]; exact r31)
    have hcs := spoil_signs c hc2
    refine ⟨_, _, c, rfl, rfl, str_line (by rw [spoil_len]; decide), hc1, ?_⟩
    rw [one_mk]
    dsimp only [gName, List.set]
    refine ⟨_, rfl, ?_⟩
    unfold tNoPart
    refine ⟨_, rfl, _, rfl, mk l, rfl, str_line (by omega), ?_⟩
    rw [cutS_to]
    refine ⟨_, rfl, _, rfl, line5 (by simp), fun L hL => ?_⟩
    have s4 : Same H3 (upd H3 L (.lst [V.str (mk [c]), V.str "", V.str (mk [c])])) := Same.add hL
    have e4 : (upd H3 L (.lst [V.str (mk [c]), V.str "", V.str (mk [c])])) L = some (.lst [V.str (mk [c]), V.str "", V.str (mk [c])]) := upd_same
    generalize upd H3 L (.lst [V.str (mk [c]), V.str "", V.str (mk [c])]) = H4 at s4 e4 ⊢
    obtain ⟨mid, hm1, hm2, hm3⟩ : ∃ mid : Tx, atI [V.str (mk [c]), V.str "", V.str (mk [c])] r2 = some (.str (mk mid)) ∧ SgT mid ∧ mid.length ≤ 1 := by
      have hc1 : SgT [c] := fun d hd => by rw [List.mem_singleton.mp hd]; exact hcs
      have e : r2 = 0 ∨ r2 = 1 ∨ r2 = 2 := by omega
      rcases e with rfl | rfl | rfl
      · exact ⟨[c], atI_nat (j := 0) rfl, hc1, Nat.le_refl _⟩
      · exact ⟨[], atI_nat (j := 1) rfl, fun d hd => (nomatch hd), Nat.zero_le _⟩
      · exact ⟨[c], atI_nat (j := 2) rfl, hc1, Nat.le_refl _⟩
    refine ⟨_, rfl, L, _, _, _, rfl, rfl, SqL.of e4, hm1, _, _, rfl, rfl, ?_, ?_⟩
    · rw [mk_len, mk_len, List.length_take]
      exact Nat.le_of_lt (lineT (by omega))
    rw [mk_app]
    obtain ⟨b, hb, hb1⟩ : ∃ b : Nat, ((at_ : Int) + (if decide ((0 : Int) < r2) = true then 1 else 0)) = ((b : Nat) : Int) ∧ at_ ≤ b := by
      by_cases h : (0 : Int) < r2
      · exact ⟨at_ + 1, by rw [if_pos (decide_eq_true h)]; omega, Nat.le_succ _⟩
      · exact ⟨at_, by rw [if_neg (by rw [decide_eq_false h]; exact Bool.false_ne_true)]; omega, Nat.le_refl _⟩
    refine ⟨_, rfl, _, rfl, _, rfl, _, _, rfl, rfl, .inr ⟨_, rfl, _, _, rfl, rfl, _, rfl, mk l, rfl, str_line (by omega), ?_⟩⟩
    rw [hb, cutS_from]
    refine ⟨_, _, rfl, rfl, ?_, ?_⟩
    · rw [mk_len, mk_len, List.length_append, List.length_take, List.length_drop]
      exact Nat.le_of_lt (lineT (by omega))
    rw [mk_app]
    refine q _ H4 (k03.same s4) ?_ ?_
    · exact SgT.app (SgT.app (fun c hc => hl c (List.mem_of_mem_take hc)) hm2) fun c hc => hl c (List.mem_of_mem_drop hc)
    · rw [List.length_append, List.length_append, List.length_take, List.length_drop]
      omega
abbrev KnSpoil (P : Program) (w : World) (K : PySem.W.Frag) (mg : Str → Option Value) (base : Heap) : Prop := Kn P w K mg base CX0 2 "_law_spoilt" ["_law_state", "_law_text"] [] (spSpoil K)
end
end Bm
set_option maxHeartbeats 1000000
/-! the law's sums and the program's -/
namespace Bm
open PySem PySem.Spec PyProof.Rows L2
theorem low_blk (c : Nat) : blk (low1 c) = blk c := by
  unfold blk low1
  split
  · rename_i h
    rw [beq_false_of_ne (show c + 32 ≠ 32 by omega), beq_false_of_ne (show c ≠ 32 by omega)]
  · rfl
theorem lowdG_ne {p : Nat} (h : p ≠ 39) : ∀ l : Tx, lowdG p l = lowd l
  | [] => rfl
  | c :: l => by
    show (if p = 39 then c else low1 c) :: lowdG c l = (if 0 = 39 then c else low1 c) :: lowdG c l
    rw [if_neg h, if_neg (by decide)]
theorem lowd_cons (c : Nat) (l : Tx) : lowd (c :: l) = low1 c :: lowdG c l := rfl
theorem ltrim_low : ∀ l : Tx, ltrim blk (lowd l) = lowd (ltrim blk l)
  | [] => rfl
  | c :: l => by
    rw [lowd_cons]
    unfold ltrim
    rw [List.dropWhile_cons, List.dropWhile_cons, low_blk]
    cases hb : blk c with
    | true =>
      have hc : c = 32 := beq_iff_eq.mp hb
      rw [if_pos rfl, if_pos rfl, hc, lowdG_ne (by decide)]
      exact ltrim_low l
    | false =>
      rw [if_neg Bool.false_ne_true, if_neg Bool.false_ne_true]
      rfl
theorem lowd_take : ∀ (l : Tx) (p k : Nat), (lowdG p l).take k = lowdG p (l.take k)
  | [], p, k => by simp [lowdG]
  | c :: l, p, 0 => rfl
  | c :: l, p, k + 1 => by
    show _ :: (lowdG c l).take k = _ :: lowdG c (l.take k)
    rw [lowd_take l c k]
theorem lowd_blk : ∀ (l : Tx) (p : Nat), (lowdG p l).map blk = l.map blk
  | [], _ => rfl
  | c :: l, p => by
    show blk (if p = 39 then c else low1 c) :: (lowdG c l).map blk = blk c :: l.map blk
    rw [lowd_blk l c]
    split
    · rfl
    · rw [low_blk]
theorem tw_map (l : Tx) : (l.reverse.takeWhile blk).length = ((l.map blk).reverse.takeWhile id).length := by
  rw [← List.map_reverse, List.takeWhile_map, List.length_map]
  rfl
theorem rtrim_low (l : Tx) : rtrim blk (lowd l) = lowd (rtrim blk l) := by
  rw [← rtrim_eq, ← rtrim_eq, tw_map, tw_map]
  unfold lowd
  rw [lowd_blk, lowdG_len, lowd_take]
theorem strip_low (l : Tx) : stripT (lowd l) = lowd (stripT l) := by
  unfold stripT
  rw [ltrim_low, rtrim_low]
def lst : Nat → Tx → Nat
  | p, [] => p
  | _, c :: l => lst c l
theorem lowdG_app : ∀ (a : Tx) (p : Nat) (b : Tx), lowdG p (a ++ b) = lowdG p a ++ lowdG (lst p a) b
  | [], _, _ => rfl
  | c :: a, p, b => by
    show _ :: lowdG c (a ++ b) = _ :: (lowdG c a ++ _)
    rw [lowdG_app a c b]
    rfl
theorem lst_snoc : ∀ (a : Tx) (p c : Nat), lst p (a ++ [c]) = c
  | [], _, _ => rfl
  | d :: a, p, c => lst_snoc a d c
theorem sg_low (c : Nat) : isSg (low1 c) = isSg c := by
  unfold low1
  split
  · rename_i h
    unfold isSg
    have e : ∀ d : Nat, (d < 65 ∨ d = 94 ∨ d = 124) → (c + 32 == d) = false ∧ (c == d) = false := fun d hd => ⟨beq_false_of_ne (by omega), beq_false_of_ne (by omega)⟩
    rw [(e 43 (by decide)).1, (e 43 (by decide)).2, (e 45 (by decide)).1, (e 45 (by decide)).2, (e 42 (by decide)).1, (e 42 (by decide)).2, (e 38 (by decide)).1, (e 38 (by decide)).2, (e 124 (by decide)).1, (e 124 (by decide)).2, (e 94 (by decide)).1, (e 94 (by decide)).2, (e 60 (by decide)).1, (e 60 (by decide)).2, (e 62 (by decide)).1, (e 62 (by decide)).2]
  · rfl
theorem sg_same {c : Nat} (h : isSg c = true) : low1 c = c ∧ c ≠ 39 := by
  unfold isSg at h
  simp only [Bool.or_eq_true, beq_iff_eq] at h
  unfold low1
  exact ⟨by rw [if_neg (by omega)], by omega⟩
theorem pieces_low : ∀ (l : Tx) (s : Nat) (acc : Tx) (p0 : Nat), p0 ≠ 39 → piecesG s (lowdG p0 acc) (lowdG (lst p0 acc) l) = (piecesG s acc l).map fun x => (x.1, lowd x.2)
  | [], s, acc, p0, h => by
    show [(s, stripT (lowdG p0 acc))] = [(s, lowd (stripT acc))]
    rw [lowdG_ne h, strip_low]
  | c :: l, s, acc, p0, h => by
    show piecesG s (lowdG p0 acc) ((if lst p0 acc = 39 then c else low1 c) :: lowdG c l) = _
    have hs : isSg (if lst p0 acc = 39 then c else low1 c) = isSg c := by
      split
      · rfl
      · exact sg_low c
    rw [piecesG, piecesG, hs]
    cases hc : isSg c with
    | true =>
      obtain ⟨e1, e2⟩ := sg_same hc
      have e3 : (if lst p0 acc = 39 then c else low1 c) = c := by rw [e1]; split <;> rfl
      rw [if_pos rfl, if_pos rfl, e3, List.map_cons, lowdG_ne h, strip_low]
      have ih := pieces_low l c [] c e2
      exact congrArg _ ih
    | false =>
      rw [if_neg Bool.false_ne_true, if_neg Bool.false_ne_true]
      have e : lowdG p0 acc ++ [if lst p0 acc = 39 then c else low1 c] = lowdG p0 (acc ++ [c]) := by
        rw [lowdG_app]
        rfl
      rw [e]
      have ih := pieces_low l s (acc ++ [c]) p0 h
      rw [lst_snoc] at ih
      exact ih
theorem piecesT_low (l : Tx) : piecesT (lowd l) = (piecesT l).map fun x => (x.1, lowd x.2) := by
  have hstart : startsT [45] (lowd l) = startsT [45] l := by
    cases l with
    | nil => rfl
    | cons c r =>
      rw [lowd_cons]
      show ([low1 c] == [45]) = ([c] == [45])
      by_cases h : c = 45
      · rw [h]; rfl
      · have h2 : low1 c ≠ 45 := by
          unfold low1
          split <;> omega
        rw [beq_false_of_ne (fun z => h2 (List.cons.inj z).1), beq_false_of_ne (fun z => h (List.cons.inj z).1)]
  unfold piecesT
  rw [hstart]
  cases h : startsT [45] l with
  | false =>
    rw [if_neg Bool.false_ne_true, if_neg Bool.false_ne_true]
    exact pieces_low l 43 [] 0 (by decide)
  | true =>
    rw [if_pos rfl, if_pos rfl]
    cases l with
    | nil => cases h
    | cons c r =>
      have hc : c = 45 := by
        have : ([c] == [45]) = true := h
        exact (List.cons.inj (beq_iff_eq.mp this)).1
      subst hc
      exact pieces_low r 45 [] 45 (by decide)
theorem low_39 : ∀ c : Nat, low1 c = 39 ↔ c = 39 := fun c => by
  unfold low1
  split <;> omega
theorem lowd_has : ∀ (l : Tx) (p : Nat), 39 ∈ lowdG p l ↔ 39 ∈ l
  | [], _ => Iff.rfl
  | c :: l, p => by
    show 39 ∈ (if p = 39 then c else low1 c) :: lowdG c l ↔ 39 ∈ c :: l
    rw [List.mem_cons, List.mem_cons, lowd_has l c]
    have : 39 = (if p = 39 then c else low1 c) ↔ 39 = c := by
      split
      · exact Iff.rfl
      · exact ⟨fun h => ((low_39 c).mp h.symm).symm, fun h => ((low_39 c).mpr h.symm).symm⟩
    rw [this]
theorem lowd_no : ∀ (l : Tx) (p : Nat), p ≠ 39 → 39 ∉ l → lowdG p l = lowT l
  | [], _, _, _ => rfl
  | c :: l, p, h, hn => by
    show (if p = 39 then c else low1 c) :: lowdG c l = low1 c :: lowT l
    rw [if_neg h, lowd_no l c (fun z => hn (by rw [z]; exact List.mem_cons_self)) fun z => hn (List.mem_cons_of_mem _ z)]
theorem fig_39 (b : Nat) : isFigB b 39 = false := rfl
theorem figured_39 {l : Tx} {b m : Nat} (h : 39 ∈ l) : figured l b m = none := by
  unfold figured
  rw [if_neg]
  rintro ⟨_, _, h3⟩
  have := List.all_eq_true.mp h3 39 h
  rw [fig_39] at this
  cases this
theorem numT_39 {q : Tx} (h : 39 ∈ q) (hs : startsT [39] q = false) : numT q = none := by
  cases q with
  | nil => cases h
  | cons a r =>
    have ha : a ≠ 39 := fun z => by
      rw [z] at hs
      have : startsT [39] (39 :: r) = true := rfl
      rw [this] at hs
      cases hs
    have hr : 39 ∈ r := (List.mem_cons.mp h).resolve_left fun z => ha z.symm
    have in2 : ∀ x, x ≠ 39 → startsT [48, x] (a :: r) = true → 39 ∈ (a :: r).drop 2 := fun x hx hst => by
      cases r with
      | nil => cases hr
      | cons b t =>
        have e : ([a, b] : Tx) = [48, x] := beq_iff_eq.mp hst
        have eb : b = x := (List.cons.inj (List.cons.inj e).2).1
        exact (List.mem_cons.mp hr).resolve_left fun z => hx (by rw [← eb, ← z])
    unfold numT
    rw [hs, if_neg Bool.false_ne_true]
    split
    · rename_i h2
      exact figured_39 (in2 120 (by decide) h2)
    · split
      · rename_i h3
        exact figured_39 (in2 98 (by decide) h3)
      · exact figured_39 h
theorem name_39 {q : Tx} (h : 39 ∈ q) : isNm q = false ∧ q ≠ HERE := by
  refine ⟨?_, fun z => by rw [z] at h; revert h; decide⟩
  rw [Bool.eq_false_iff]
  intro hn
  unfold isNm at hn
  rw [Bool.and_eq_true] at hn
  have := List.all_eq_true.mp hn.2 39 h
  revert this
  decide
/-- what a number is starts with a figure -/
theorem num_name {q : Tx} {n : Nat} (h : numT q = some n) (hs : startsT [39] q = false) : isNm q = false ∧ q ≠ HERE := by
  have key : ∀ c r, q = c :: r → isFig c = true → isNm q = false ∧ q ≠ HERE := fun c r e hf => by
    have hl : isLet c = false := by
      unfold isFig at hf
      unfold isLet
      simp only [Bool.and_eq_true, decide_eq_true_eq] at hf
      rw [decide_eq_false (show ¬ 97 ≤ c by omega)]
      rfl
    refine ⟨?_, fun z => ?_⟩
    · unfold isNm
      rw [e, show (c :: r).headD 0 = c from rfl, hl]
      simp
    · rw [z] at e
      have : c = 104 := (List.cons.inj e).1.symm
      rw [this] at hf
      cases hf
  cases q with
  | nil => exact ⟨rfl, by decide⟩
  | cons a r =>
    refine key a r rfl ?_
    unfold numT at h
    rw [hs, if_neg Bool.false_ne_true] at h
    split at h
    · rename_i h2
      cases r with
      | nil => cases (List.cons.inj (beq_iff_eq.mp (show ([a] == [48, 120]) = true from h2))).2
      | cons b t =>
        have e : ([a, b] : Tx) = [48, 120] := beq_iff_eq.mp h2
        rw [(List.cons.inj e).1]
        rfl
    · split at h
      · rename_i h3
        cases r with
        | nil => cases (List.cons.inj (beq_iff_eq.mp (show ([a] == [48, 98]) = true from h3))).2
        | cons b t =>
          have e : ([a, b] : Tx) = [48, 98] := beq_iff_eq.mp h3
          rw [(List.cons.inj e).1]
          rfl
      · unfold figured at h
        split at h
        · rename_i c
          have := List.all_eq_true.mp c.2.2 a List.mem_cons_self
          unfold isFigB at this
          unfold figV at this
          rw [Bool.and_eq_true, Bool.or_eq_true] at this
          obtain ⟨h1, h2⟩ := this
          rcases h1 with h1 | h1
          · exact h1
          · simp only [Bool.and_eq_true, decide_eq_true_eq] at h1 h2
            split at h2 <;> omega
        · cases h
theorem start_lowd (p : Tx) : startsT [39] (lowd p) = startsT [39] p := by
  cases p with
  | nil => rfl
  | cons c r =>
    rw [lowd_cons]
    show ([low1 c] == [39]) = ([c] == [39])
    by_cases h : c = 39
    · rw [h]; rfl
    · rw [beq_false_of_ne (fun z => h ((low_39 c).mp (List.cons.inj z).1)), beq_false_of_ne (fun z => h (List.cons.inj z).1)]
/-- known names: what may be one, and here -/
def NmsOk (nm : Tx → Option Int) : Prop := (∀ p i, nm p = some i → isNm p = true ∨ p = HERE) ∧ nm HERE ≠ none
theorem worth_same {nm : Tx → Option Int} (hn : NmsOk nm) (p : Tx) : worthT nm (lowd p) = worthL nm p := by
  have none_ : ∀ q : Tx, isNm q = false ∧ q ≠ HERE → nm q = none := fun q h => by
    cases e : nm q with
    | none => rfl
    | some i =>
      rcases hn.1 q i e with h1 | h1
      · rw [h1] at h; cases h.1
      · exact absurd h1 h.2
  unfold worthT worthL lawNum
  by_cases h39 : 39 ∈ p
  · have hq : 39 ∈ lowd p := (lowd_has p 0).mpr h39
    have hL : 39 ∈ lowT p := by
      unfold lowT
      exact List.mem_map.mpr ⟨39, h39, rfl⟩
    have a1 := name_39 hq
    have a2 := name_39 hL
    rw [none_ _ a1, a1.1]
    dsimp only
    rw [if_neg Bool.false_ne_true]
    cases hs : startsT [39] p with
    | true =>
      rw [if_pos rfl]
      have : numT (lowd p) = signN (p.drop 1) := by
        unfold numT
        rw [start_lowd, hs, if_pos rfl]
        cases p with
        | nil => cases hs
        | cons c r =>
          have hc : c = 39 := by
            have : ([c] == [39]) = true := hs
            exact (List.cons.inj (beq_iff_eq.mp this)).1
          subst hc
          show signN (lowdG 39 r) = signN r
          cases r with
          | nil => rfl
          | cons d t =>
            cases t with
            | nil => rfl
            | cons e u => rfl
      rw [this]
      cases signN (p.drop 1) with
      | some n => rfl
      | none =>
        dsimp only
        rw [if_pos a2]
    | false =>
      rw [if_neg Bool.false_ne_true, numT_39 hq (by rw [start_lowd]; exact hs), numT_39 hL (by rw [start_low]; exact hs)]
      dsimp only
      rw [if_pos a2]
  · have hq : lowd p = lowT p := lowd_no p 0 (by decide) h39
    have hs : startsT [39] p = false := by
      cases p with
      | nil => rfl
      | cons c r => exact beq_false_of_ne fun z => h39 (by rw [(List.cons.inj z).1]; exact List.mem_cons_self)
    rw [hq, hs, if_neg Bool.false_ne_true]
    have hs2 : startsT [39] (lowT p) = false := by rw [start_low]; exact hs
    cases hnum : numT (lowT p) with
    | some n =>
      have a := num_name hnum hs2
      rw [none_ _ a, a.1]
      rfl
    | none =>
      dsimp only
      by_cases a : isNm (lowT p) = false ∧ lowT p ≠ HERE
      · rw [if_pos a, none_ _ a, a.1]
        rfl
      · rw [if_neg a]
        cases hm : nm (lowT p) with
        | some i => rfl
        | none =>
          have : isNm (lowT p) = true := by
            cases h : isNm (lowT p) with
            | true => rfl
            | false =>
              refine absurd ⟨h, fun z => ?_⟩ a
              rw [z] at hm
              exact hn.2 hm
          dsimp only
          rw [if_pos this]
theorem sum_same {nm : Tx → Option Int} (hn : NmsOk nm) : ∀ (ps : List (Nat × Tx)) (t : Int), sumG nm t (ps.map fun x => (x.1, lowd x.2)) = sumL nm t ps
  | [], t => rfl
  | (c, p) :: ps, t => by
    rw [List.map_cons, sumG]
    dsimp only
    rw [worth_same hn, sumL]
    cases worthL nm p with
    | bad y => rfl
    | ok o =>
      dsimp only
      cases onT t c o with
      | bad y => rfl
      | ok u => exact sum_same hn ps u
/-- the program's sum of a part, as the law reckons it -/
theorem sumT_same {nm : Tx → Option Int} (hn : NmsOk nm) (l : Tx) (lo hi : Int) : sumT nm (lowd (stripT l)) lo hi = match lawSum nm l with
  | .bad y => .bad y
  | .ok t => if lo ≤ t ∧ t ≤ hi then .ok t else .bad "number" := by
  unfold sumT lawSum
  rw [piecesT_low, sum_same hn]
  by_cases hb : badHead (stripT l) = true
  · rw [if_pos hb]
    have e0 : worthL nm [] = .bad "number" := rfl
    have e1 : sumL nm 0 [(43, [])] = .bad "number" := by
      rw [sumL, e0]
    have e2 : sumL nm 0 (piecesT (stripT l)) = .bad "number" := by
      unfold badHead at hb
      rw [Bool.and_eq_true] at hb
      cases hs : stripT l with
      | nil => rw [hs] at hb; cases hb.1
      | cons c r =>
        rw [hs] at hb
        have h1 : isSg c = true := hb.1
        have h2 : c ≠ 45 := by
          have := hb.2
          intro z
          rw [show (c :: r).headD 0 = c from rfl, z] at this
          cases this
        unfold piecesT
        have hns : ¬ startsT [45] (c :: r) = true := fun z => h2 (List.cons.inj (beq_iff_eq.mp (show ([c] == [45]) = true from z))).1
        rw [if_neg hns, piecesG, if_pos h1, sumL]
        rw [show stripT [] = [] from rfl, e0]
    rw [e1, e2]
  · rw [if_neg hb]
    all_goals (cases sumL nm 0 (piecesT (stripT l)) <;> rfl)
end Bm
set_option maxHeartbeats 1000000
/-! decimal texts of numbers, as parts of rows -/
namespace Bm
open PySem PySem.Spec PyProof.Rows L2
def decT (i : Int) : Tx := sg (PySem.Str.ofString (toString i))
def digT (m : Nat) : Tx := (Nat.toDigits 10 m).map Char.toNat
theorem decT_nat (m : Nat) : decT (m : Int) = digT m := PySem.W.KIN.signs_num m
theorem decT_neg (m : Nat) : decT (Int.negSucc m) = 45 :: digT (m + 1) := by
  unfold decT sg
  rw [signs_ofString]
  show (("-" ++ Nat.repr (m + 1)).toList).map Char.toNat = _
  rw [String.toList_append, List.map_append, Nat.toList_repr]
  rfl
theorem digT_fig (m : Nat) : ∀ c ∈ digT m, isFig c = true := fun c hc => by
  obtain ⟨ch, hch, rfl⟩ := List.mem_map.mp hc
  obtain ⟨h1, h2⟩ := digit_range (Nat.isDigit_of_mem_toDigits (by decide) (by decide) hch)
  unfold isFig
  rw [decide_eq_true h1, decide_eq_true h2]
  rfl
theorem digT_ne (m : Nat) : digT m ≠ [] := fun e => by
  have h := toDigits_len_ge 10 m
  rw [List.map_eq_nil_iff.mp e] at h
  exact absurd h (by decide)
theorem digT_len {m : Nat} (h : m < 100000) : (digT m).length ≤ 5 := by
  unfold digT
  rw [List.length_map]
  exact digits10_le (k := 5) (by decide) h
theorem fold_fig : ∀ (l : Tx) (n : Nat), (∀ c ∈ l, isFig c = true) → l.foldl (fun n c => n * 10 + figV c) n = l.foldl (fun n c => n * 10 + (c - 48)) n
  | [], _, _ => rfl
  | c :: l, n, hl => by
    have hc := hl c List.mem_cons_self
    unfold isFig at hc
    simp only [Bool.and_eq_true, decide_eq_true_eq] at hc
    have : figV c = c - 48 := if_pos hc.2
    rw [List.foldl_cons, List.foldl_cons, this]
    exact fold_fig l _ fun d hd => hl d (List.mem_cons_of_mem _ hd)
theorem digT_val (m : Nat) : figN 10 (digT m) = m := (fold_fig (digT m) 0 (digT_fig m)).trans (PySem.W.KIN.val_back m)
theorem fig_range {c : Nat} (h : isFig c = true) : 48 ≤ c ∧ c ≤ 57 := by
  unfold isFig at h
  simp only [Bool.and_eq_true, decide_eq_true_eq] at h
  exact h
theorem numT_dig {m : Nat} (h : m < 100000) : numT (digT m) = some m := by
  have hf := digT_fig m
  have hfb : (digT m).all (isFigB 10) = true := List.all_eq_true.mpr fun c hc => by
    have h1 := hf c hc
    obtain ⟨a, b⟩ := fig_range h1
    unfold isFigB figV
    rw [h1, if_pos b, decide_eq_true (show c - 48 < 10 by omega)]
    rfl
  have hl := digT_len h
  have hpos : 1 ≤ (digT m).length := by
    cases e : digT m with
    | nil => exact absurd e (digT_ne m)
    | cons a r => simp
  have no : ∀ (a : Nat) (t : Tx), (a < 48 ∨ 57 < a) → startsT (a :: t) (digT m) = false := fun a t ha => by
    refine beq_false_of_ne fun z => ?_
    have : a ∈ digT m := List.mem_of_mem_take (by rw [z]; exact List.mem_cons_self)
    obtain ⟨x, y⟩ := fig_range (hf a this)
    omega
  have no2 : ∀ a x : Nat, (x < 48 ∨ 57 < x) → startsT [a, x] (digT m) = false := fun a x hx => by
    refine beq_false_of_ne fun z => ?_
    have : x ∈ digT m := List.mem_of_mem_take (by rw [z]; simp)
    obtain ⟨u, v⟩ := fig_range (hf x this)
    omega
  unfold numT
  rw [no 39 [] (by decide), no2 48 120 (by decide), no2 48 98 (by decide), if_neg Bool.false_ne_true, if_neg Bool.false_ne_true, if_neg Bool.false_ne_true]
  unfold figured
  rw [if_pos ⟨hpos, hl, hfb⟩, digT_val]
theorem pieces_plain : ∀ (l : Tx) (s : Nat) (acc : Tx), (∀ c ∈ l, isSg c = false) → piecesG s acc l = [(s, stripT (acc ++ l))]
  | [], s, acc, _ => by rw [piecesG, List.append_nil]
  | c :: l, s, acc, h => by
    rw [piecesG, if_neg (by rw [h c List.mem_cons_self]; exact Bool.false_ne_true), pieces_plain l s (acc ++ [c]) fun d hd => h d (List.mem_cons_of_mem _ hd), List.append_assoc]
    rfl
theorem dropw_none {p : Nat → Bool} : ∀ l : Tx, (∀ c ∈ l, p c = false) → l.dropWhile p = l
  | [], _ => rfl
  | c :: l, h => by rw [List.dropWhile_cons, h c List.mem_cons_self, if_neg Bool.false_ne_true]
theorem strip_none {l : Tx} (h : ∀ c ∈ l, c ≠ 32) : stripT l = l := by
  have hb : ∀ c ∈ l, blk c = false := fun c hc => beq_false_of_ne (h c hc)
  unfold stripT ltrim rtrim
  rw [dropw_none l hb, dropw_none l.reverse fun c hc => hb c (List.mem_reverse.mp hc), List.reverse_reverse]
theorem fig_plain {c : Nat} (h : isFig c = true) : isSg c = false ∧ c ≠ 32 ∧ isLet c = false := by
  obtain ⟨a, b⟩ := fig_range h
  refine ⟨?_, by omega, ?_⟩
  · unfold isSg
    simp only [Bool.or_eq_false_iff, beq_eq_false_iff_ne]
    omega
  · unfold isLet
    rw [decide_eq_false (show ¬ 97 ≤ c by omega)]
    rfl
theorem worth_dig {nm : Tx → Option Int} (hn : ∀ p i, nm p = some i → isNm p = true ∨ p = HERE) {m : Nat} (h : m < 100000) : worthT nm (digT m) = .ok (m : Nat) := by
  have hnum := numT_dig h
  have hst : startsT [39] (digT m) = false := by
    refine beq_false_of_ne fun z => ?_
    have : 39 ∈ digT m := List.mem_of_mem_take (by rw [z]; exact List.mem_cons_self)
    obtain ⟨x, y⟩ := fig_range (digT_fig m 39 this)
    omega
  obtain ⟨a1, a2⟩ := num_name hnum hst
  unfold worthT
  cases e : nm (digT m) with
  | some i => exact (hn _ i e).elim (fun z => by rw [z] at a1; cases a1) fun z => absurd z a2
  | none =>
    dsimp only
    rw [a1, hnum]
    rfl
theorem on_plus {x : Int} (h1 : -1000000000 ≤ x) (h2 : x ≤ 1000000000) : onT 0 43 x = .ok x := by
  have e : sumS 43 0 x = x := (show sumS 43 0 x = 0 + x from rfl).trans (Int.zero_add x)
  unfold onT
  rw [if_neg (fun h => h.1.elim (fun z => by cases z) fun z => by cases z), e, if_pos ⟨h1, h2⟩]
theorem on_minus {x : Int} (h1 : -1000000000 ≤ x) (h2 : x ≤ 1000000000) : onT 0 45 x = .ok (-x) := by
  have e : sumS 45 0 x = -x := (show sumS 45 0 x = 0 - x from rfl).trans (Int.zero_sub x)
  unfold onT
  rw [if_neg (fun h => h.1.elim (fun z => by cases z) fun z => by cases z), e, if_pos ⟨by omega, by omega⟩]
theorem sumG_one {nm : Tx → Option Int} {c : Nat} {p : Tx} {o u : Int} (h1 : worthT nm p = .ok o) (h2 : onT 0 c o = .ok u) : sumG nm 0 [(c, p)] = .ok u := by
  rw [sumG, h1]
  dsimp only
  rw [h2]
  rfl
theorem sumT_one {nm : Tx → Option Int} {l p : Tx} {c : Nat} {o u lo hi : Int} (hp : piecesT l = [(c, p)]) (h1 : worthT nm p = .ok o) (h2 : onT 0 c o = .ok u) (h3 : lo ≤ u ∧ u ≤ hi) : sumT nm l lo hi = .ok u := by
  unfold sumT
  rw [hp, sumG_one h1 h2]
  dsimp only
  rw [if_pos h3]
theorem pieces_dig (m : Nat) : piecesT (digT m) = [(43, digT m)] ∧ piecesT (45 :: digT m) = [(45, digT m)] := by
  have p1 : ∀ c ∈ digT m, isSg c = false := fun c hc => (fig_plain (digT_fig m c hc)).1
  have p2 : stripT (digT m) = digT m := strip_none fun c hc => (fig_plain (digT_fig m c hc)).2.1
  have hs : startsT [45] (digT m) = false := by
    refine beq_false_of_ne fun z => ?_
    have : 45 ∈ digT m := List.mem_of_mem_take (by rw [z]; exact List.mem_cons_self)
    obtain ⟨x, y⟩ := fig_range (digT_fig m 45 this)
    omega
  have hs2 : startsT [45] (45 :: digT m) = true := rfl
  unfold piecesT
  rw [hs, hs2, if_neg Bool.false_ne_true, if_pos rfl, show (45 :: digT m).drop 1 = digT m from rfl, pieces_plain _ _ _ p1, pieces_plain _ _ _ p1, List.nil_append, p2]
  exact ⟨rfl, rfl⟩
theorem sum_decN {nm : Tx → Option Int} (hn : ∀ p i, nm p = some i → isNm p = true ∨ p = HERE) {m : Nat} (h : m < 100000) : sumT nm (digT m) (-1000000000) 1000000000 = .ok (m : Nat) :=
  sumT_one (pieces_dig m).1 (worth_dig hn h) (on_plus (by omega) (by omega)) ⟨by omega, by omega⟩
theorem sum_decM {nm : Tx → Option Int} (hn : ∀ p i, nm p = some i → isNm p = true ∨ p = HERE) {m : Nat} (h : m < 100000) : sumT nm (45 :: digT m) (-1000000000) 1000000000 = .ok (-(m : Nat)) :=
  sumT_one (pieces_dig m).2 (worth_dig hn h) (on_minus (by omega) (by omega)) ⟨by omega, by omega⟩
end Bm
set_option maxHeartbeats 1000000
/-! rows of a word and what stands behind it -/
namespace Bm
open PySem PySem.Spec PyProof.Rows L2
theorem ahead_free {c : Nat} : ∀ {l : Tx}, c ∉ l → aheadT c l = l
  | [], _ => rfl
  | x :: l, h => by
    unfold aheadT
    have hx : (x != c) = true := bne_iff_ne.mpr fun z => h (by rw [z]; exact List.mem_cons_self)
    rw [List.takeWhile_cons, hx, if_pos rfl]
    exact congrArg _ (ahead_free fun z => h (List.mem_cons_of_mem _ z))
theorem rtrim_app {p : Nat → Bool} {a b : Tx} (h : rtrim p b ≠ []) : rtrim p (a ++ b) = a ++ rtrim p b := by
  unfold rtrim at h ⊢
  rw [List.reverse_append, List.dropWhile_append]
  have hn : (b.reverse.dropWhile p).isEmpty = false := by
    cases e : b.reverse.dropWhile p with
    | nil => rw [e] at h; exact absurd rfl h
    | cons x l => rfl
  rw [hn, if_neg Bool.false_ne_true, List.reverse_append, List.reverse_reverse]
theorem ltrim_head {p : Nat → Bool} {c : Nat} {l : Tx} (h : p c = false) : ltrim p (c :: l) = c :: l := by
  unfold ltrim
  rw [List.dropWhile_cons, h, if_neg Bool.false_ne_true]
theorem ws_blk {c : Nat} (h : isWs c = true) : blk c = false := by
  refine beq_false_of_ne fun z => ?_
  rw [z] at h
  cases h
theorem ltrim_ws : ∀ (wd bd : Tx), (∀ c ∈ wd, isWs c = true) → ltrim isWs (wd ++ 32 :: bd) = 32 :: bd
  | [], bd, _ => ltrim_head rfl
  | c :: wd, bd, h => by
    unfold ltrim
    rw [List.cons_append, List.dropWhile_cons, h c List.mem_cons_self, if_pos rfl]
    exact ltrim_ws wd bd fun d hd => h d (List.mem_cons_of_mem _ hd)
theorem strip_blank (bd : Tx) : stripT (32 :: bd) = stripT bd := rfl
theorem strip_row {wd bd : Tx} (hw : ∀ c ∈ wd, isWs c = true) (hn : wd ≠ []) (hb : rtrim blk bd = bd) (hbn : bd ≠ []) : stripT (wd ++ 32 :: bd) = wd ++ 32 :: bd := by
  obtain ⟨c, r, rfl⟩ : ∃ c r, wd = c :: r := by
    cases wd with
    | nil => exact absurd rfl hn
    | cons c r => exact ⟨c, r, rfl⟩
  unfold stripT
  rw [List.cons_append, ltrim_head (ws_blk (hw c List.mem_cons_self))]
  have e : c :: (r ++ 32 :: bd) = (c :: r ++ [32]) ++ bd := by simp
  rw [e, rtrim_app (by rw [hb]; exact hbn), hb]
theorem row_wb {wd bd : Tx} (hw : ∀ c ∈ wd, isWs c = true) (hn : wd ≠ []) (hb : rtrim blk bd = bd) (hbn : bd ≠ []) (h58 : 58 ∉ wd ++ 32 :: bd) (n : Nat) : rowT n (wd ++ 32 :: bd) = ⟨n, none, stripT bd, lowd wd, partsT (stripT bd), (partsT (stripT bd)).map lowd⟩ := by
  have hs := strip_row hw hn hb hbn
  have hl := ltrim_ws wd bd hw
  have eb : bodyT (wd ++ 32 :: bd) = wd ++ 32 :: bd := if_neg h58
  have ew : wordRest (wd ++ 32 :: bd) = (wd, stripT bd) := by
    unfold wordRest
    rw [hs, hl, if_neg]
    · refine Prod.ext ?_ (strip_blank bd)
      show (wd ++ 32 :: bd).take ((wd ++ 32 :: bd).length - (32 :: bd).length) = wd
      rw [List.length_append, Nat.add_sub_cancel, List.take_left']
      rfl
    · intro z
      have := congrArg List.length z
      rw [List.length_append] at this
      have hp : 0 < wd.length := List.length_pos_iff.mpr hn
      omega
  unfold rowT
  rw [eb, ew, if_neg h58]
theorem strip_sub_idem (l : Tx) : ltrim blk (stripT l) = stripT l ∧ rtrim blk (stripT l) = stripT l := by
  have r_idem : ∀ x : Tx, rtrim blk (rtrim blk x) = rtrim blk x := fun x => by
    unfold rtrim
    rw [List.reverse_reverse]
    have : ∀ y : Tx, (y.dropWhile blk).dropWhile blk = y.dropWhile blk := fun y => by
      induction y with
      | nil => rfl
      | cons c y ih =>
        rw [List.dropWhile_cons]
        cases h : blk c with
        | true => rw [if_pos rfl]; exact ih
        | false => rw [if_neg Bool.false_ne_true, List.dropWhile_cons, h, if_neg Bool.false_ne_true]
    rw [this]
  refine ⟨?_, r_idem _⟩
  unfold stripT
  have hd : ∀ x : Tx, (∀ c r, x = c :: r → blk c = false) → ltrim blk (rtrim blk x) = rtrim blk x := fun x hx => by
    cases e : rtrim blk x with
    | nil => rfl
    | cons c r =>
      refine ltrim_head ?_
      have hp : ∃ t, x = c :: t := by
        have h2 := rtrim_eq blk x
        rw [e] at h2
        cases x with
        | nil => rw [List.take_nil] at h2; cases h2
        | cons d t =>
          cases k : (d :: t).length - ((d :: t).reverse.takeWhile blk).length with
          | zero => rw [k] at h2; cases h2
          | succ m =>
            rw [k, List.take_succ_cons] at h2
            exact ⟨t, by rw [(List.cons.inj h2).1]⟩
      obtain ⟨t, ht⟩ := hp
      exact hx c t ht
  refine hd _ fun c r e => ?_
  cases h : blk c with
  | false => rfl
  | true =>
    exfalso
    have : ∀ (y : Tx) (c : Nat) (r : Tx), ltrim blk y = c :: r → blk c = false := fun y => by
      induction y with
      | nil => intro c r e; cases e
      | cons d y ih =>
        intro c r e
        unfold ltrim at e
        rw [List.dropWhile_cons] at e
        cases hd : blk d with
        | true => rw [hd, if_pos rfl] at e; exact ih c r e
        | false =>
          rw [hd, if_neg Bool.false_ne_true] at e
          rw [← (List.cons.inj e).1]
          exact hd
    rw [this l c r e] at h
    cases h
theorem strip_idem (l : Tx) : stripT (stripT l) = stripT l := by
  obtain ⟨h1, h2⟩ := strip_sub_idem l
  show rtrim blk (ltrim blk (stripT l)) = stripT l
  rw [h1, h2]
theorem parts_one {r : Tx} (h : 44 ∉ r) (hs : stripT r = r) (hn : r ≠ []) : partsT r = [r] := by
  unfold partsT
  rw [if_neg hn, splitT_free h, List.map_cons, hs]
  rfl
theorem parts_two {a b : Tx} (ha : 44 ∉ a) (hb : 44 ∉ b) (h1 : stripT a = a) : partsT (a ++ 44 :: b) = [a, stripT b] := by
  unfold partsT
  rw [if_neg (by simp), splitT_app b ha, splitT_free hb, List.map_cons, List.map_cons, h1]
  rfl
end Bm
set_option maxHeartbeats 1000000
/-! the rows of the law's text -/
namespace Bm
open PySem PySem.Spec PyProof.Rows L2
theorem rtrim_cons {c : Nat} {l : Tx} (h : rtrim blk l ≠ []) : rtrim blk (c :: l) = c :: rtrim blk l := rtrim_app (a := [c]) h
theorem rtrim_keep {c : Nat} (h : blk c = false) (l : Tx) : ∃ r, rtrim blk (c :: l) = c :: r := by
  by_cases e : rtrim blk l = []
  · refine ⟨[], ?_⟩
    unfold rtrim at e ⊢
    rw [List.reverse_cons, List.dropWhile_append]
    have : l.reverse.dropWhile blk = [] := List.reverse_eq_nil_iff.mp e
    rw [this, if_pos (show ([] : Tx).isEmpty = true from rfl), List.dropWhile_cons, h, if_neg Bool.false_ne_true]
    rfl
  · exact ⟨_, rtrim_cons e⟩
theorem strip_rtrim : ∀ l : Tx, stripT (rtrim blk l) = stripT l
  | [] => rfl
  | c :: l => by
    cases h : blk c with
    | true =>
      have hc : c = 32 := beq_iff_eq.mp h
      subst hc
      rw [strip_blank, ← strip_rtrim l]
      by_cases e : rtrim blk l = []
      · rw [e]
        have : rtrim blk (32 :: l) = [] := by
          unfold rtrim at e ⊢
          rw [List.reverse_cons, List.dropWhile_append]
          have : l.reverse.dropWhile blk = [] := List.reverse_eq_nil_iff.mp e
          rw [this, if_pos (show ([] : Tx).isEmpty = true from rfl)]
          rfl
        rw [this]
      · rw [rtrim_cons e, strip_blank]
    | false =>
      obtain ⟨r, hr⟩ := rtrim_keep h l
      have e1 : stripT (c :: l) = rtrim blk (c :: l) := by
        unfold stripT
        rw [ltrim_head h]
      have e2 : stripT (c :: r) = rtrim blk (c :: r) := by
        unfold stripT
        rw [ltrim_head h]
      rw [e1, hr, e2, ← hr]
      have := (strip_sub_idem (c :: l)).2
      rw [e1] at this
      exact this
theorem strip_nil_iff (l : Tx) : rtrim blk l = [] ↔ stripT l = [] := by
  constructor
  · intro h
    rw [← strip_rtrim, h]
    rfl
  · intro h
    induction l with
    | nil => rfl
    | cons c l ih =>
      cases hb : blk c with
      | true =>
        have hc : c = 32 := beq_iff_eq.mp hb
        subst hc
        have e := ih h
        unfold rtrim at e ⊢
        rw [List.reverse_cons, List.dropWhile_append]
        have : l.reverse.dropWhile blk = [] := List.reverse_eq_nil_iff.mp e
        rw [this, if_pos (show ([] : Tx).isEmpty = true from rfl)]
        rfl
      | false =>
        have e1 : stripT (c :: l) = rtrim blk (c :: l) := by
          unfold stripT
          rw [ltrim_head hb]
        rw [← e1]
        exact h
theorem decT_sgn (i : Int) : ∀ c ∈ decT i, c = 45 ∨ 48 ≤ c ∧ c ≤ 57 := fun c hc => by
  by_cases e : c ≠ 45 ∧ (c < 48 ∨ 57 < c)
  · exact absurd hc (int_text_free' c e i)
  · omega
theorem decT_ne (i : Int) : decT i ≠ [] := by
  cases i with
  | ofNat m => exact fun h => digT_ne m ((decT_nat m).symm.trans h)
  | negSucc m => rw [decT_neg]; exact fun h => by cases h
theorem decT_blk (i : Int) : rtrim blk (decT i) = decT i ∧ stripT (decT i) = decT i := by
  have h : ∀ c ∈ decT i, c ≠ 32 := fun c hc => by
    have := decT_sgn i c hc
    omega
  have hs := strip_none h
  refine ⟨?_, hs⟩
  have := (strip_sub_idem (decT i)).2
  rwa [hs] at this
def LETt : Tx := [46, 108, 101, 116]
def WORDt : Tx := [46, 119, 111, 114, 100]
/-- a row that lets a name be a number -/
def letRow (nm : Tx) (i : Int) : Tx := LETt ++ 32 :: (nm ++ 44 :: 32 :: decT i)
theorem low_plain : ∀ (l : Tx) (p : Nat), (∀ c ∈ l, c < 65 ∨ 90 < c) → lowdG p l = l
  | [], _, _ => rfl
  | c :: l, p, h => by
    have hc : low1 c = c := by
      have := h c List.mem_cons_self
      unfold low1
      rw [if_neg (by omega)]
    show (if p = 39 then c else low1 c) :: lowdG c l = c :: l
    rw [hc, low_plain l c fun d hd => h d (List.mem_cons_of_mem _ hd)]
    split <;> rfl
theorem let_row {nm : Tx} (hnn : nm ≠ []) (h1 : ∀ c ∈ nm, 97 ≤ c ∧ c ≤ 122 ∨ 48 ≤ c ∧ c ≤ 57) (i : Int) (n : Nat) : (∃ rest, rowT n (letRow nm i) = ⟨n, none, rest, LETt, [nm, decT i], [nm, decT i]⟩) ∧ stripT (letRow nm i) = letRow nm i ∧ (∀ c ∈ letRow nm i, c = 46 ∨ c = 32 ∨ c = 44 ∨ c = 45 ∨ 97 ≤ c ∧ c ≤ 122 ∨ 48 ≤ c ∧ c ≤ 57) := by
  have hd := decT_sgn i
  have hmem : ∀ c ∈ letRow nm i, c = 46 ∨ c = 32 ∨ c = 44 ∨ c = 45 ∨ 97 ≤ c ∧ c ≤ 122 ∨ 48 ≤ c ∧ c ≤ 57 := fun c hc => by
    unfold letRow LETt at hc
    simp only [List.mem_append, List.mem_cons, List.not_mem_nil, or_false] at hc
    rcases hc with hc | rfl | hc | rfl | rfl | hc
    · omega
    · omega
    · have := h1 c hc; omega
    · omega
    · omega
    · have := hd c hc; omega
  have hw : ∀ c ∈ LETt, isWs c = true := by decide
  have hbn : nm ++ 44 :: 32 :: decT i ≠ [] := by simp
  have hb : rtrim blk (nm ++ 44 :: 32 :: decT i) = nm ++ 44 :: 32 :: decT i := by
    have e : nm ++ 44 :: 32 :: decT i = (nm ++ [44, 32]) ++ decT i := by simp
    rw [e, rtrim_app (by rw [(decT_blk i).1]; exact decT_ne i), (decT_blk i).1]
  have h58 : 58 ∉ LETt ++ 32 :: (nm ++ 44 :: 32 :: decT i) := fun h => by
    have := hmem 58 h
    omega
  have hr := row_wb hw (by decide) hb hbn h58 n
  have hst : stripT (nm ++ 44 :: 32 :: decT i) = nm ++ 44 :: 32 :: decT i := by
    obtain ⟨c, r, rfl⟩ : ∃ c r, nm = c :: r := by
      cases nm with
      | nil => exact absurd rfl hnn
      | cons c r => exact ⟨c, r, rfl⟩
    have hc : blk c = false := beq_false_of_ne (by have := h1 c List.mem_cons_self; omega)
    unfold stripT
    rw [List.cons_append, ltrim_head hc]
    exact hb
  have hp : partsT (nm ++ 44 :: 32 :: decT i) = [nm, decT i] := by
    rw [parts_two (fun h => by have := h1 44 h; omega) (fun h => ?_) (strip_none fun c hc => by have := h1 c hc; omega), strip_blank, (decT_blk i).2]
    rcases List.mem_cons.mp h with h | h
    · cases h
    · have := hd 44 h; omega
  have l1 : lowd nm = nm := low_plain nm 0 fun c hc => by have := h1 c hc; omega
  have l2 : lowd (decT i) = decT i := low_plain _ 0 fun c hc => by have := hd c hc; omega
  refine ⟨⟨nm ++ 44 :: 32 :: decT i, ?_⟩, strip_row hw (by decide) hb hbn, hmem⟩
  unfold letRow
  rw [hr, hst, hp, List.map_cons, List.map_cons, l1, l2]
  rfl
/-- the rows of a text of rows none of which breaks -/
theorem rows_five {a b c d e : Tx} (ha : 10 ∉ a ∧ 59 ∉ a) (hb : 10 ∉ b ∧ 59 ∉ b) (hc : 10 ∉ c ∧ 59 ∉ c) (hd : 10 ∉ d ∧ 59 ∉ d) (he : 10 ∉ e ∧ 59 ∉ e) (hn : e ≠ []) : rowsT (a ++ 10 :: (b ++ 10 :: (c ++ 10 :: (d ++ 10 :: e)))) = [stripT a, stripT b, stripT c, stripT d, stripT e] := by
  unfold rowsT
  rw [splitT_app _ ha.1, splitT_app _ hb.1, splitT_app _ hc.1, splitT_app _ hd.1, splitT_free he.1]
  have eb : butLast [a, b, c, d, e] = [a, b, c, d, e] := by
    show a :: b :: c :: d :: butLast [e] = _
    have : butLast [e] = [e] := if_neg hn
    rw [this]
  rw [eb]
  simp only [List.map_cons, List.map_nil, ahead_free ha.2, ahead_free hb.2, ahead_free hc.2, ahead_free hd.2, ahead_free he.2]
/-- the last row: words by a sum -/
theorem word_row {t : Tx} (h : SgT t) (n : Nat) : (stripT t = [] → ∃ rest, rowT n (stripT (WORDt ++ 32 :: t)) = ⟨n, none, rest, WORDt, [], []⟩) ∧ (stripT t ≠ [] → ∃ rest, rowT n (stripT (WORDt ++ 32 :: t)) = ⟨n, none, rest, WORDt, [stripT t], [lowd (stripT t)]⟩) := by
  have hw : ∀ c ∈ WORDt, isWs c = true := by decide
  have e1 : stripT (WORDt ++ 32 :: t) = rtrim blk (WORDt ++ 32 :: t) := by
    unfold stripT
    exact congrArg _ (ltrim_head (c := 46) (by decide))
  constructor
  · intro hs
    have h2 := (strip_nil_iff t).mpr hs
    have e2 : rtrim blk (WORDt ++ 32 :: t) = WORDt := by
      unfold rtrim at h2 ⊢
      have h3 : t.reverse.dropWhile blk = [] := List.reverse_eq_nil_iff.mp h2
      rw [show WORDt ++ 32 :: t = (WORDt ++ [32]) ++ t by simp, List.reverse_append, List.dropWhile_append, h3, if_pos (show ([] : Tx).isEmpty = true from rfl)]
      decide
    rw [e1, e2]
    have e3 : wordRest (bodyT WORDt) = (WORDt, []) := by decide
    have e4 : lowd WORDt = WORDt := by decide
    refine ⟨[], ?_⟩
    unfold rowT
    rw [e3, if_neg (by decide)]
    dsimp only
    rw [e4]
    rfl
  · intro hs
    have hb : rtrim blk t ≠ [] := fun z => hs ((strip_nil_iff t).mp z)
    have e2 : rtrim blk (WORDt ++ 32 :: t) = WORDt ++ 32 :: rtrim blk t := by
      rw [show WORDt ++ 32 :: t = (WORDt ++ [32]) ++ t by simp, rtrim_app hb]
      simp
    have h58 : 58 ∉ WORDt ++ 32 :: rtrim blk t := fun z => by
      rcases List.mem_append.mp z with z | z
      · revert z; decide
      · rcases List.mem_cons.mp z with z | z
        · cases z
        · exact (h 58 (rtrim_sub _ _ 58 z)).2.2.2.1 rfl
    have hr2 : rtrim blk (rtrim blk t) = rtrim blk t := by
      have := (strip_sub_idem t).2
      unfold rtrim
      rw [List.reverse_reverse]
      have dd : ∀ y : Tx, (y.dropWhile blk).dropWhile blk = y.dropWhile blk := fun y => by
        induction y with
        | nil => rfl
        | cons c y ih =>
          rw [List.dropWhile_cons]
          cases h : blk c with
          | true => rw [if_pos rfl]; exact ih
          | false => rw [if_neg Bool.false_ne_true, List.dropWhile_cons, h, if_neg Bool.false_ne_true]
      rw [dd]
    have hr := row_wb hw (by decide) hr2 hb h58 n
    have hp : partsT (stripT t) = [stripT t] := parts_one (fun z => (h 44 (stripT_sub t 44 z)).2.2.1 rfl) (strip_idem t) hs
    rw [e1, e2, hr, strip_rtrim, hp]
    exact ⟨_, rfl⟩
end Bm
set_option maxHeartbeats 1000000
namespace Bm
open PySem PySem.Spec PyProof.Rows L2
theorem nextT {D : Ends} {σ : L2.St} {H : Hp} (h : D.nx σ H) : tNext D σ H := h
/-! names that rows give -/
theorem cut_upto1 : ∀ xs : List V, cutV xs none (some 1) = xs.take 1
  | [] => rfl
  | x :: xs => by
    unfold cutV
    have e1 : HT.sIx (x :: xs).length 0 none = 0 := rfl
    have e2 : HT.sIx (x :: xs).length (x :: xs).length (some 1) = 1 := by
      unfold HT.sIx
      simp
    rw [e1, e2]
    rfl
def ownT (r : Rw) : List Tx := (match r.label with
  | none => []
  | some l => [l]) ++ (if wS r = ".let" then r.parts.take 1 else [])
/-- a name of some stands among those known, or twice among them -/
def twiceB : List Tx → List Tx → Bool
  | _, [] => false
  | kn, n :: l => decide (n ∈ kn) || twiceB (kn ++ [n]) l
def numsG : Nat → List (Tx × Nat) → List Tx → List Rw → RsN (List (Tx × Nat))
  | _, ns, _, [] => .ok ns
  | i, ns, kn, r :: rs => if isFormT r = false then .bad r.number "form" else if twiceB kn (ownT r) = true then .bad r.number "twice" else
    numsG (i + 1) (match r.label with
      | none => ns
      | some l => ns ++ [(l, i)]) (kn ++ ownT r) rs
def vNm (ns : List (Tx × Nat)) : List (Key × V) := ns.map fun x => (.inr (mk x.1), .int (x.2 : Nat))
def vKn (kn : List Tx) : List (Key × V) := kn.map fun x => (.inr (mk x), .bl true)
theorem key_eq {a b : Tx} : ((.inr (mk a) : Key) = .inr (mk b)) ↔ a = b := ⟨fun h => mk_inj (Sum.inr.inj h), fun h => by rw [h]⟩
theorem vKn_at (p : Tx) : ∀ kn : List Tx, valV (vKn kn) (.inr (mk p)) = if p ∈ kn then some (.bl true) else none
  | [] => rfl
  | n :: kn => by
    show valV (((.inr (mk n) : Key), V.bl true) :: vKn kn) _ = _
    by_cases c : n = p
    · rw [valV_pos (by rw [c]), c, if_pos (List.mem_cons_self ..)]
    · rw [valV_neg (fun h => c (key_eq.mp h)), vKn_at p kn]
      by_cases d : p ∈ kn
      · rw [if_pos d, if_pos (List.mem_cons_of_mem _ d)]
      · rw [if_neg d, if_neg (fun h => (List.mem_cons.mp h).elim (fun e => c e.symm) d)]
theorem vNm_at (p : Tx) : ∀ ns : List (Tx × Nat), valV (vNm ns) (.inr (mk p)) = (ns.lookup p).map fun (n : Nat) => V.int (n : Nat)
  | [] => rfl
  | (l, n) :: ns => by
    show valV (((.inr (mk l) : Key), V.int (n : Nat)) :: vNm ns) _ = _
    rw [List.lookup_cons]
    by_cases c : l = p
    · rw [valV_pos (by rw [c]), c, beq_self_eq_true]
      rfl
    · rw [valV_neg (fun h => c (key_eq.mp h)), vNm_at p ns, beq_false_of_ne (fun h => c h.symm)]
theorem look_none {p : Tx} : ∀ {ns : List (Tx × Nat)}, p ∉ ns.map (·.1) → ns.lookup p = none
  | [], _ => rfl
  | (l, n) :: ns, h => by
    rw [List.lookup_cons, beq_false_of_ne (fun e => h (by rw [e]; exact List.mem_cons_self ..))]
    exact look_none fun e => h (List.mem_cons_of_mem _ e)
theorem twice_label {kn : List Tx} {r : Rw} {l : Tx} (h : twiceB kn (ownT r) = false) (e : r.label = some l) : l ∉ kn := fun hm => by
  unfold ownT at h
  rw [e] at h
  show False
  rw [List.singleton_append, twiceB, decide_eq_true hm] at h
  cases h
theorem own_len (r : Rw) : (ownT r).length ≤ 2 := by
  unfold ownT
  have h1 : (match r.label with
    | none => []
    | some l => [l] : List Tx).length ≤ 1 := by
    cases r.label <;> simp
  have h2 : (if wS r = ".let" then r.parts.take 1 else []).length ≤ 1 := by
    split
    · exact List.length_take_le 1 r.parts
    · exact Nat.zero_le _
  rw [List.length_append]
  omega
/-- names' labels are plain -/
def RwL (r : Rw) : Prop := RwOk r ∧ (∀ l, r.label = some l → ClT l ∧ l.length ≤ 50000) ∧ r.number ≤ 100000
section
variable {P : Program} {w : World} {K : PySem.W.Frag} {mg : Str → Option Value} {base : Heap} {f CR : Addr} {fd : FuncData} {dvs : List V}
def spOwnN (CR : Addr) : Sp := fun vs H Q _ => ∃ (a : Addr) (r : Rw), vs = [.ref a] ∧ RAt CR H a r ∧ RwOk r ∧ ∀ D H', Same H H' → H D = none → H' D = some (.lst (vTx (ownT r))) → Q (.ref D) H'
abbrev N_own_names : List Str := ["row", "names"]
theorem sc_own_names : FnScope ["row", "names"] ["row"] (defScope s_own_names) := ⟨rfl, rfl, rfl, by decide +kernel, rfl, by decide +kernel, by decide +kernel⟩
theorem ok_ownn (F : FnP K "own_names" s_own_names dvs f fd) (T : CT K CR RFN) : FnOk P w K mg base CX0 1 f fd ["row"] (spOwnN CR) := by
  refine F.ok sc_own_names (fun vs H Q E h => ?_) (fun cdv A outer s H vs Q E hr h => ?_)
  · obtain ⟨a, r, rfl, _⟩ := h
    rfl
  · obtain ⟨a, r, rfl, hA, hok, q⟩ := h
    refine ⟨_, PSs.nox (pss_cons (ps_set (i := 1) sc_own_names.nd rfl (Or.inl rfl) (pe_ifExp (pt_cmpR op_isN (pe_fld (pv 0) rfl) pe_non (nomark _)) (pe_lst pa_nil) (pe_lst (pa_cons (pe_fld (pv 0) rfl) pa_nil))))
      (pss_one (ps_ret (pe_ifExp (pt_cmpR op_eq (pe_fld (pv 0) rfl) pe_str (nomark _)) (pe_op op_cat (pv 1) (pe_slice sl_list (pe_fld (pv 0) rfl) po_none (po_some pe_int))) (pv 1))))), ?_⟩
    obtain ⟨dx, tl, pl, h1, h2, h3⟩ := hA
    have lv : (vTx r.parts).length = r.parts.length := by unfold vTx; rw [List.length_map]
    refine sqT ?_
    refine tIfJ (fun v G => ∃ D, v = .ref D ∧ Same H G ∧ H D = none ∧ G D = some (.lst (vTx (match r.label with
      | none => []
      | some l => [l])))) ?_ (fun key => ?_)
    rotate_left
    · refine ⟨_, rfl, a, CR, dx, _, _, rfl, h1, T.cl, T.n _ m_label, rf_label _ _ _ _ _ _, rfl, _, rfl, ?_⟩
      cases hlab : r.label with
      | none =>
        refine itT rfl ⟨line5 (by simp), fun D hD => key _ _ ⟨D, rfl, Same.add hD, hD, ?_⟩⟩
        rw [upd_same, hlab]
        rfl
      | some l =>
        rw [hlab] at h1
        refine itF rfl ⟨_, rfl, a, CR, dx, _, _, rfl, h1, T.cl, T.n _ m_label, rf_label _ _ _ _ _ _, line5 (by simp), fun D hD => key _ _ ⟨D, rfl, Same.add hD, hD, ?_⟩⟩
        rw [upd_same, hlab]
        rfl
    rintro v G ⟨D, rfl, sG, nD, hD⟩
    dsimp only [gName, List.set]
    have h1G := sG _ _ h1
    have h3G := sG _ _ h3
    refine ⟨_, rfl, a, CR, dx, _, _, rfl, h1G, T.cl, T.n _ m_word, rf_word _ _ _ _ _ _, rfl, _, rfl, ?_⟩
    by_cases c : wS r = ".let"
    · have hq : ownT r = (match r.label with
        | none => []
        | some l => [l]) ++ r.parts.take 1 := by
        unfold ownT
        rw [if_pos c]
      rw [hq] at q
      refine itT (decide_eq_true (congrArg V.str c)) ⟨_, rfl, _, rfl, a, CR, dx, _, _, rfl, h1G, T.cl, T.n _ m_parts, rf_parts _ _ _ _ _ _, ?_⟩
      unfold tNoPart
      refine ⟨_, rfl, pl, _, rfl, SqL.of h3G, fun O hO => ?_⟩
      have ecut : cutV (vTx r.parts) none (some 1) = vTx (r.parts.take 1) := by
        unfold vTx
        exact (cut_upto1 _).trans List.map_take.symm
      rw [ecut]
      have s2 : Same G (upd G O (.lst (vTx (r.parts.take 1)))) := Same.add hO
      have e2 : (upd G O (.lst (vTx (r.parts.take 1)))) O = some (.lst (vTx (r.parts.take 1))) := upd_same
      generalize upd G O (.lst (vTx (r.parts.take 1))) = G2 at s2 e2 ⊢
      refine ⟨D, O, _, _, rfl, rfl, s2 _ _ hD, e2, ?_, fun L hL => ?_⟩
      · refine Nat.le_of_lt (lineT ?_)
        have := List.length_take_le 1 r.parts
        unfold vTx
        rw [List.length_map, List.length_map]
        have : (match r.label with
          | none => []
          | some l => [l] : List Tx).length ≤ 1 := by
          cases r.label <;> simp
        omega
      · refine q L _ (Same.trans sG (Same.trans s2 (Same.add hL))) (free_of (Same.trans sG s2) hL) ?_
        rw [upd_same]
        unfold vTx
        rw [List.map_append]
    · have hq : ownT r = (match r.label with
        | none => []
        | some l => [l]) := by
        unfold ownT
        rw [if_neg c, List.append_nil]
      rw [hq] at q
      exact itF (decide_eq_false fun z => c (V.str.inj z)) ⟨_, rfl, q D G sG nD hD⟩
abbrev KnOwnN (P : Program) (w : World) (K : PySem.W.Frag) (mg : Str → Option Value) (base : Heap) (CR : Addr) : Prop := Kn P w K mg base CX0 1 "own_names" ["row"] [] (spOwnN CR)
def spNums (K : PySem.W.Frag) (CR : Addr) : Sp := fun vs H Q E => ∃ (rl : Addr) (rs : List Rw), vs = [.ref rl] ∧ Rows CR H rl rs ∧ (∀ r ∈ rs, RwL r) ∧ rs.length ≤ 300 ∧
  (∀ ns, numsG 0 [] [] rs = .ok ns → ∀ D H', Same H H' → H D = none → H' D = some (.dK (vNm ns)) → Q (.ref D) H') ∧ (∀ n y, numsG 0 [] [] rs = .bad n y → ∀ H', Same H H' → Rfs K E H' n y)
abbrev N_numbers_of_labels : List Str := ["rows", "numbers", "known", "number", "row", "name"]
theorem sc_numbers_of_labels : FnScope ["rows", "numbers", "known", "number", "row", "name"] ["rows"] (defScope s_numbers_of_labels) := ⟨rfl, rfl, rfl, by decide +kernel, rfl, by decide +kernel, by decide +kernel⟩
theorem ok_nums (F : FnP K "numbers_of_labels" s_numbers_of_labels dvs f fd) (T : CT K CR RFN) (k_is_form : Kn P w K mg base CX0 4 "is_form" ["row"] [] (spRow1 CR (fun _ => True) fun r => .bl (isFormT r))) (k_own_names : KnOwnN P w K mg base CR) (b_BadRow : BadRo P w K mg base) (g_enumerate : mg "enumerate" = none) : FnOk P w K mg base (L2.CX P w) 5 f fd ["rows"] (spNums K CR) := by
  refine F.ok sc_numbers_of_labels (fun vs H Q E h => ?_) (fun cdv A outer s H vs Q E hr h => ?_)
  · obtain ⟨rl, rs, rfl, _⟩ := h
    rfl
  · obtain ⟨rl, rs, rfl, hR, hok, hl, qy, qn⟩ := h
    refine ⟨_, (pss_cons (ps_set (i := 1) sc_numbers_of_labels.nd rfl (Or.inl rfl) pe_dnewK)
      (pss_cons (ps_set (i := 2) sc_numbers_of_labels.nd rfl (Or.inl rfl) pe_dnewK)
      (pss_cons (ps_for (passes_of rfl) rfl (pi_enum rfl g_enumerate (pa_cons (pv 0) pa_nil)) (pg_tup rfl (pgs_cons (pg_name (i := 3) sc_numbers_of_labels.nd rfl (Or.inl rfl)) (pgs_cons (pg_name (i := 4) sc_numbers_of_labels.nd rfl (Or.inl rfl)) pgs_nil)))
      (pss_cons (ps_if (pt_not (pt_val (pk k_is_form hr (by decide) rfl pass0 (pa_cons (pv 4) pa_nil)))) (pss_one (ps_raise rfl (takes_of rfl rfl rfl rfl) (pmk_bad b_BadRow hr (by decide) rfl (pa_cons (pe_fld (pv 4) rfl) (pa_cons pe_str pa_nil))))) pss_nil)
      (pss_cons (ps_if (pt_cmpR op_notN (pe_fld (pv 4) rfl) pe_non (nomark _)) (pss_one (ps_asg (pv 3) (pg_sub (pv 1) (pe_fld (pv 4) rfl) (set_dict (hu_of hr))))) pss_nil)
      (pss_one (ps_for (passes_of rfl) rfl (pi_list (pk k_own_names hr (by decide) rfl pass0 (pa_cons (pv 4) pa_nil))) (pg_name (i := 5) sc_numbers_of_labels.nd rfl (Or.inl rfl))
      (pss_cons (ps_if (pt_cmpR (op_inDk (hu_of hr)) (pv 5) (pv 2) rfl) (pss_one (ps_raise rfl (takes_of rfl rfl rfl rfl) (pmk_bad b_BadRow hr (by decide) rfl (pa_cons (pe_fld (pv 4) rfl) (pa_cons pe_str pa_nil))))) pss_nil)
      (pss_one (ps_asg pe_bl (pg_sub (pv 2) (pv 5) (set_dict (hu_of hr)))))))))))
      (pss_one (ps_ret (pv 1)))))), ?_⟩
    obtain ⟨xs, hL, hxl, hat⟩ := hR
    have lx : (xs.map fun x => V.ref x.1).length = rs.length := by rw [List.length_map]; exact hxl
    refine sqT ?_
    refine fun D1 hD1 => ?_
    have s1 : Same H (upd H D1 (.dK [])) := Same.add hD1
    have e1 : (upd H D1 (.dK [])) D1 = some (.dK []) := upd_same
    generalize upd H D1 (.dK []) = H1 at s1 e1 ⊢
    refine sqT ?_
    refine fun D2 hD2 => ?_
    have s2 : Same H1 (upd H1 D2 (.dK [])) := Same.add hD2
    have e2 : (upd H1 D2 (.dK [])) D2 = some (.dK []) := upd_same
    generalize upd H1 D2 (.dK []) = H2 at s2 e2 ⊢
    have n12 : D2 ≠ D1 := ne_of_free e1 hD2
    have nD1 : H D1 = none := hD1
    have nD2 : H D2 = none := free_of s1 hD2
    dsimp only [gName, List.set]
    refine sqT ?_
    refine ⟨_, rfl, rl, _, rfl, SqL.of (s2 _ _ (s1 _ _ hL)), for_it (walk_enum (xs := xs.map fun x => V.ref x.1)) (fun i σ G => ∃ (ns : List (Tx × Nat)) (kn : List Tx) (v3 v4 v5 : Option V), σ = [some (.ref rl), some (.ref D1), some (.ref D2), v3, v4, v5] ∧ Same H G ∧ G D1 = some (.dK (vNm ns)) ∧ G D2 = some (.dK (vKn kn)) ∧ kn.length ≤ 2 * i ∧ ns.length ≤ i ∧ (∀ x ∈ ns, x.1 ∈ kn) ∧ numsG 0 [] [] rs = numsG i ns kn (rs.drop i))
      ⟨[], [], none, none, none, rfl, Same.trans s1 s2, s2 _ _ e1, e2, Nat.zero_le _, Nat.zero_le _, fun x hx => (nomatch hx), rfl⟩ (fun i σ G _ ⟨_, _, _, _, _, _, h, _⟩ => SqL.of (h _ _ hL)) ?_ ?_⟩
    · rintro i x σ G G' hi ⟨ns, kn, v3, v4, v5, rfl, sG, g1, g2, hk, hn, hsub, hex⟩ ⟨T1, y, z, rfl, hT1, rfl, hy, hz⟩
      rw [lx] at hi
      obtain rfl : V.int (i : Nat) = y := Option.some.inj hy
      have hz' : (xs.map fun x => V.ref x.1)[i]? = some z := hz
      rw [List.getElem?_map] at hz'
      obtain ⟨x, hx, rfl⟩ := Option.map_eq_some_iff.mp hz'
      obtain ⟨r, hr1⟩ : ∃ r, rs[i]? = some r := ⟨rs[i], List.getElem?_eq_getElem hi⟩
      have hA := (hat i x r hx hr1).1.at_
      have hrm := List.mem_of_getElem? hr1
      obtain ⟨ok1, ok2, ok3⟩ := hok r hrm
      have hdrop : rs.drop i = r :: rs.drop (i + 1) := by
        rw [List.drop_eq_getElem_cons hi]
        rw [List.getElem?_eq_getElem hi] at hr1
        rw [Option.some.inj hr1]
      rw [hdrop, numsG] at hex
      have sT : Same G (upd G T1 (.tup [V.int (i : Nat), V.ref x.1])) := Same.add hT1
      have eT : (upd G T1 (.tup [V.int (i : Nat), V.ref x.1])) T1 = some (.tup [V.int (i : Nat), V.ref x.1]) := upd_same
      generalize upd G T1 (.tup [V.int (i : Nat), V.ref x.1]) = G3 at sT eT ⊢
      have s3 := Same.trans sG sT
      refine ⟨T1, _, rfl, SqT.of eT, rfl, _, _, rfl, _, _, rfl, rfl, ?_⟩
      dsimp only [gName, List.set]
      refine sqT ?_
      refine ⟨_, rfl, x.1, r, rfl, hA.same s3, ok1, True.intro, fun G4 s4 => ⟨_, rfl, ?_⟩⟩
      have s04 := Same.trans s3 s4
      obtain ⟨dx, tl, pl, a1, a2, a3⟩ := hA.same s04
      cases hfm : isFormT r with
      | false =>
        rw [if_pos hfm] at hex
        exact itT rfl ⟨_, rfl, x.1, CR, dx, _, _, rfl, a1, T.cl, T.n _ m_number, rf_number _ _ _ _ _ _, by simp, ⟨_, _, rfl, small_lg ok3, by decide +kernel⟩, fun d hd => qn _ _ hex _ s04 d _ (Same.add hd) hd upd_same⟩
      | true =>
        refine itF rfl (nextT ?_)
        dsimp only
        have g14 := s4 _ _ (sT _ _ g1)
        have g24 := s4 _ _ (sT _ _ g2)
        refine sqT ?_
        refine ifJ (fun σ' G5 => σ' = [some (.ref rl), some (.ref D1), some (.ref D2), some (.int (i : Nat)), some (.ref x.1), v5] ∧ Same H G5 ∧ (∃ kvs, G5 D1 = some (.dK kvs) ∧ (twiceB kn (ownT r) = false → kvs = vNm (match r.label with
          | none => ns
          | some l => ns ++ [(l, i)]))) ∧ G5 D2 = some (.dK (vKn kn))) ?_ (fun key => ?_)
        rotate_left
        · refine ⟨_, rfl, x.1, CR, dx, _, _, rfl, a1, T.cl, T.n _ m_label, rf_label _ _ _ _ _ _, rfl, _, rfl, ?_⟩
          cases hlab : r.label with
          | none => exact itF rfl (key _ _ ⟨rfl, s04, ⟨_, g14, fun _ => by rw [hlab]⟩, g24⟩)
          | some l =>
            rw [hlab] at a1
            refine itT rfl ⟨_, rfl, _, rfl, _, rfl, x.1, CR, dx, _, _, rfl, a1, T.cl, T.n _ m_label, rf_label _ _ _ _ _ _, D1, _, rfl, DPut.k (k := Sum.inr (mk l)) g14 (lineT (by unfold vNm; rw [List.length_map]; omega)), key _ _ ⟨rfl, Same.mut s04 nD1, ⟨_, upd_same, fun ht => ?_⟩, by rw [upd_ne n12]; exact g24⟩⟩
            have hno : l ∉ ns.map (·.1) := fun hm => by
              obtain ⟨y, hy, e⟩ := List.mem_map.mp hm
              exact twice_label ht hlab (by rw [← e]; exact hsub y hy)
            rw [putK_new _ (by rw [vNm_at, look_none hno]; rfl), hlab]
            unfold vNm
            rw [List.map_append]
            rfl
        rintro σ' G5 ⟨rfl, s5, ⟨kvs, k1, k2⟩, g25⟩
        refine ⟨_, rfl, x.1, r, rfl, hA.same s5, ok1, fun O G6 s6 hO hOl => ?_⟩
        have nO1 : O ≠ D1 := ne_of_free k1 hO
        have nO2 : O ≠ D2 := ne_of_free g25 hO
        have lo : (vTx (ownT r)).length = (ownT r).length := by unfold vTx; rw [List.length_map]
        have lo2 := own_len r
        refine ⟨O, rfl, ⟨_, SqL.of hOl⟩, for_list (K := K) (a := O) (xs := vTx (ownT r)) (fun j σ G7 => ∃ v5' : Option V, σ = [some (.ref rl), some (.ref D1), some (.ref D2), some (.int (i : Nat)), some (.ref x.1), v5'] ∧ Same H G7 ∧ G7 O = some (.lst (vTx (ownT r))) ∧ G7 D1 = some (.dK kvs) ∧ G7 D2 = some (.dK (vKn (kn ++ (ownT r).take j))) ∧ twiceB kn (ownT r) = twiceB (kn ++ (ownT r).take j) ((ownT r).drop j))
          ⟨v5, rfl, Same.trans s5 s6, hOl, s6 _ _ k1, by rw [List.take_zero, List.append_nil]; exact s6 _ _ g25, by rw [List.take_zero, List.append_nil, List.drop_zero]⟩ (fun j σ G7 _ ⟨_, _, _, h, _⟩ => SqL.of h) ?_ ?_⟩
        · rintro j y σ G7 hy ⟨v5', rfl, s7, o7, d17, d27, ht⟩
          have hy' : ((ownT r).map fun t => V.str (mk t))[j]? = some y := hy
          rw [List.getElem?_map] at hy'
          obtain ⟨n, hn1, rfl⟩ := Option.map_eq_some_iff.mp hy'
          have hjl := (List.getElem?_eq_some_iff.mp hn1).1
          have hdr : (ownT r).drop j = n :: (ownT r).drop (j + 1) := by
            rw [List.drop_eq_getElem_cons hjl]
            rw [List.getElem?_eq_getElem hjl] at hn1
            rw [Option.some.inj hn1]
          rw [hdr, twiceB] at ht
          have htl := List.length_take_le j (ownT r)
          refine ⟨_, rfl, _, rfl, D2, _, rfl, DGet.k (k := Sum.inr (mk n)) d27, _, rfl, ?_⟩
          rw [vKn_at]
          by_cases c : n ∈ kn ++ (ownT r).take j
          · rw [if_pos c]
            rw [decide_eq_true c, Bool.true_or] at ht
            rw [if_neg (by rw [hfm]; simp), if_pos ht] at hex
            obtain ⟨dx, tl, pl, a1, a2, a3⟩ := hA.same s7
            exact itT rfl ⟨_, rfl, x.1, CR, dx, _, _, rfl, a1, T.cl, T.n _ m_number, rf_number _ _ _ _ _ _, by simp, ⟨_, _, rfl, small_lg ok3, by decide +kernel⟩, fun d hd => qn _ _ hex _ s7 d _ (Same.add hd) hd upd_same⟩
          · rw [if_neg c]
            rw [decide_eq_false c, Bool.false_or] at ht
            have et : (ownT r).take (j + 1) = (ownT r).take j ++ [n] := takeS hn1
            refine itF rfl ⟨_, rfl, _, rfl, D2, _, rfl, DPut.k (k := Sum.inr (mk n)) d27 (lineT (by unfold vKn; rw [List.length_map, List.length_append]; omega)), _, rfl, Same.mut s7 nD2, by rw [upd_ne nO2]; exact o7, by rw [upd_ne n12.symm]; exact d17, ?_, ?_⟩
            · rw [upd_same, putK_new _ (by rw [vKn_at, if_neg c]), et, ← List.append_assoc]
              unfold vKn
              rw [List.map_append (l₂ := [n])]
              rfl
            · rw [ht, et, List.append_assoc]
        · rintro σ G7 ⟨v5', rfl, s7, o7, d17, d27, ht⟩
          rw [lo, List.drop_length, twiceB] at ht
          rw [lo, List.take_length] at d27
          rw [if_neg (by rw [hfm]; simp), if_neg (by rw [ht]; simp)] at hex
          refine ⟨_, kn ++ ownT r, _, _, _, rfl, s7, by rw [← k2 ht]; exact d17, d27, by rw [List.length_append]; omega, ?_, ?_, hex⟩
          · cases r.label with
            | none => exact Nat.le_succ_of_le hn
            | some l =>
              show (ns ++ [(l, i)]).length ≤ i + 1
              rw [List.length_append]
              exact Nat.succ_le_succ hn
          · intro y hy
            cases hlab : r.label with
            | none =>
              rw [hlab] at hy
              exact List.mem_append_left _ (hsub y hy)
            | some l =>
              rw [hlab] at hy
              rcases List.mem_append.mp (show y ∈ ns ++ [(l, i)] from hy) with h | h
              · exact List.mem_append_left _ (hsub y h)
              · rw [List.mem_singleton.mp h]
                refine List.mem_append_right _ ?_
                unfold ownT
                rw [hlab]
                exact List.mem_append_left _ (List.mem_singleton.mpr rfl)
    · rintro σ G ⟨ns, kn, v3, v4, v5, rfl, sG, g1, g2, hk, hn, hsub, hex⟩
      rw [lx, List.drop_length, numsG] at hex
      exact ⟨_, rfl, qy ns hex D1 G sG nD1 g1⟩
end
end Bm
set_option maxHeartbeats 1000000
namespace Bm
open PySem PySem.Spec PyProof.Rows L2
def goalsG (ns : List (Tx × Nat)) : List (Option Nat) → List Rw → RsN (List (Option Nat))
  | acc, [] => .ok acc
  | acc, r :: rs => match goalT r with
    | none => goalsG ns (acc ++ [none]) rs
    | some p => match ns.lookup p with
      | none => .bad r.number "name"
      | some n => goalsG ns (acc ++ [if wS r = "jump" ∨ wS r = "call" then some n else none]) rs
def longG (sz : List Nat) : Nat → List Rw → Option Nat
  | _, [] => none
  | i, r :: rs => if 200 < lay sz (i + 1) then some r.number else longG sz (i + 1) rs
theorem lookup_memT {p : Tx} {n : Nat} : ∀ {ns : List (Tx × Nat)}, ns.lookup p = some n → (p, n) ∈ ns
  | [], h => by cases h
  | (l, m) :: ns, h => by
    rw [List.lookup_cons] at h
    cases c : p == l with
    | true =>
      rw [c] at h
      rw [beq_iff_eq.mp c, ← Option.some.inj h]
      exact List.mem_cons_self ..
    | false =>
      rw [c] at h
      exact List.mem_cons_of_mem _ (lookup_memT h)
theorem form_goes {r : Rw} (h : isFormT r = true) (g : goesS r = true) : r.parts ≠ [] := fun e => by
  unfold goesS at g
  rw [Bool.or_eq_true, decide_eq_true_eq, decide_eq_true_eq] at g
  unfold isFormT at h
  rw [e] at h
  have key : ∀ x ∈ JMn ++ CLn, x ≠ "" ∧ x ≠ ".word" ∧ ∃ a b, kindsS x = some (a :: b) ∧ (b ≠ [] ∨ x ∉ SHn) := by
    intro x hx
    simp only [JMn, CLn, List.cons_append, List.nil_append, List.mem_cons, List.not_mem_nil, or_false] at hx
    rcases hx with rfl | rfl | rfl | rfl | rfl | rfl
    · exact ⟨by decide +kernel, by decide +kernel, "name", ["when"], by decide +kernel, .inl (by simp)⟩
    · exact ⟨by decide +kernel, by decide +kernel, "name", ["when"], by decide +kernel, .inl (by simp)⟩
    · exact ⟨by decide +kernel, by decide +kernel, "name", ["when"], by decide +kernel, .inl (by simp)⟩
    · exact ⟨by decide +kernel, by decide +kernel, "name", [], by decide +kernel, .inr (by decide +kernel)⟩
    · exact ⟨by decide +kernel, by decide +kernel, "name", [], by decide +kernel, .inr (by decide +kernel)⟩
    · exact ⟨by decide +kernel, by decide +kernel, "name", [], by decide +kernel, .inr (by decide +kernel)⟩
  obtain ⟨k1, k2, a, b, k3, k4⟩ := key (wS r) (List.mem_append.mpr g)
  rw [if_neg k1, if_neg k2, k3] at h
  dsimp only at h
  rw [if_neg] at h
  · cases h
  · rintro (h1 | ⟨h1, h2⟩)
    · cases h1
    · rcases k4 with k4 | k4
      · cases b with
        | nil => exact k4 rfl
        | cons c d => cases h1
      · exact k4 h2
theorem form_room {r : Rw} (h : isFormT r = true) (g : wS r = ".room") : ∀ p, r.parts = [p] → (numT p).isSome = true := fun p e => by
  unfold isFormT at h
  have k3 : kindsS ".room" = some ([("room" : Str)]) := by decide +kernel
  rw [e, g, k3, if_neg (by decide +kernel), if_neg (by decide +kernel)] at h
  dsimp only at h
  rw [if_pos (.inl rfl)] at h
  have h : (fitsT "room" p && true) = true := h
  rw [Bool.and_true] at h
  unfold fitsT at h
  rw [if_neg (by decide +kernel), if_neg (by decide +kernel), if_neg (by decide +kernel), if_pos rfl] at h
  cases hn : numT p with
  | none => rw [hn] at h; cases h
  | some n => rfl
section
variable {P : Program} {w : World} {K : PySem.W.Frag} {mg : Str → Option Value} {base : Heap} {f CR : Addr} {fd : FuncData} {dvs : List V}
def spSizes (K : PySem.W.Frag) (CR : Addr) : Sp := fun vs H Q E => ∃ (rl D : Addr) (rs : List Rw) (ns : List (Tx × Nat)), vs = [.ref rl, .ref D] ∧ Rows CR H rl rs ∧ (∀ r ∈ rs, RwL r ∧ isFormT r = true) ∧ rs.length ≤ 300 ∧ H D = some (.dK (vNm ns)) ∧ (∀ x ∈ ns, x.2 ≤ rs.length) ∧
  (∀ gs, goalsG ns [] rs = .ok gs → ∀ S H', Same H H' → H S = none → H' S = some (.lst (vNat (wEndS gs (rs.map leastT)))) → Q (.ref S) H') ∧ (∀ n y, goalsG ns [] rs = .bad n y → ∀ H', Same H H' → Rfs K E H' n y)
abbrev N_sizes_of : List Str := ["rows", "numbers", "goals", "row", "name"]
theorem sc_sizes_of : FnScope ["rows", "numbers", "goals", "row", "name"] ["rows", "numbers"] (defScope s_sizes_of) := ⟨rfl, rfl, rfl, by decide +kernel, rfl, by decide +kernel, by decide +kernel⟩
theorem ok_sizes (F : FnP K "sizes_of" s_sizes_of dvs f fd) (T : CT K CR RFN) (k_goal_name : Kn P w K mg base CX0 1 "goal_name" ["row"] [] (spRow1 CR (fun r => goesS r = true → r.parts ≠ []) fun r => vOt (goalT r))) (k_least_size : Kn P w K mg base CX0 3 "least_size" ["row"] [] (spRow1 CR (fun r => wS r = ".room" → ∀ p, r.parts = [p] → (numT p).isSome = true) fun r => .int (leastT r : Nat))) (k_widened : KnWide P w K mg base) (b_BadRow : BadRo P w K mg base) : FnOk P w K mg base (L2.CX P w) 4 f fd ["rows", "numbers"] (spSizes K CR) := by
  refine F.ok sc_sizes_of (fun vs H Q E h => ?_) (fun cdv A outer s H vs Q E hr h => ?_)
  · obtain ⟨rl, D, rs, ns, rfl, _⟩ := h
    rfl
  · obtain ⟨rl, D, rs, ns, rfl, hR, hok, hl, hD, hns, qy, qn⟩ := h
    refine ⟨_, (pss_cons (ps_set (i := 2) sc_sizes_of.nd rfl (Or.inl rfl) (pe_lst pa_nil))
      (pss_cons (ps_for (passes_of rfl) rfl (pi_list (pv 0)) (pg_name (i := 3) sc_sizes_of.nd rfl (Or.inl rfl))
      (pss_cons (ps_set (i := 4) sc_sizes_of.nd rfl (Or.inl rfl) (pk k_goal_name hr (by decide) rfl pass0 (pa_cons (pv 3) pa_nil)))
      (pss_cons (ps_if (PW.pt (pw_and (pt_cmpR op_notN (pv 4) pe_non (nomark _)) (pw_and1 (pt_cmpR (op_notInDk (hu_of hr)) (pv 4) (pv 1) rfl)))) (pss_one (ps_raise rfl (takes_of rfl rfl rfl rfl) (pmk_bad b_BadRow hr (by decide) rfl (pa_cons (pe_fld (pv 3) rfl) (pa_cons pe_str pa_nil))))) pss_nil)
      (pss_one (ps_expr (pe_bm PySem.F.plainAttrs_list PySem.F.slot_list_append PySem.F.type_list_append mt_append (pv 2) (pa_cons (pe_ifExp (pt_cmpR op_in_seq (pe_fld (pv 3) rfl) (pe_tup (pa_cons pe_str (pa_cons pe_str pa_nil))) rfl) (pe_dget (hu_of hr) (pv 1) (pv 4) (fun _ _ => rfl)) pe_non) pa_nil)))))))
      (pss_one (ps_ret (pk k_widened hr (by decide) rfl pass0 (pa_cons (pe_lc (own := [("row", 3)]) (g := gName 3) rfl sc_sizes_of.nd (pi_list (pv 0)) (blkOk_by (own := [("row", 3)]) (N := N_sizes_of) (sc := defScope s_sizes_of) (by decide +kernel)) (fun _ _ _ _ _ => (pg_name (i := 3) sc_sizes_of.nd rfl (Or.inl rfl))) (fun _ _ _ _ _ => pts_nil) (fun _ _ _ _ _ => (pk k_least_size hr (by decide) rfl pass0 (pa_cons (pv 3) pa_nil)))) (pa_cons (pv 2) pa_nil))))))), ?_⟩
    obtain ⟨xs, hRL, hxl, hat⟩ := id hR
    have lx : (xs.map fun x => V.ref x.1).length = rs.length := by rw [List.length_map]; exact hxl
    refine sqT ?_
    refine ⟨line5 (by simp), fun L hL => ?_⟩
    have nL : H L = none := hL
    have s1 : Same H (upd H L (.lst [])) := Same.add hL
    have e1 : (upd H L (.lst [])) L = some (.lst []) := upd_same
    generalize upd H L (.lst []) = H1 at s1 e1 ⊢
    dsimp only [gName, List.set]
    refine sqT ?_
    refine ⟨_, rfl, rl, rfl, ⟨_, SqL.of (s1 _ _ hRL)⟩, for_list (K := K) (a := rl) (xs := xs.map fun x => V.ref x.1) (fun i σ G => ∃ (gs : List (Option Nat)) (v3 v4 : Option V), σ = [some (.ref rl), some (.ref D), some (.ref L), v3, v4] ∧ Same H G ∧ G L = some (.lst (gs.map goV)) ∧ gs.length = i ∧ goalsG ns [] rs = goalsG ns gs (rs.drop i) ∧ ∀ g, some g ∈ gs → g ≤ rs.length)
      ⟨[], none, none, rfl, s1, e1, rfl, rfl, fun g hg => (nomatch hg)⟩ (fun i σ G _ ⟨_, _, _, _, h, _⟩ => SqL.of (h _ _ hRL)) ?_ ?_⟩
    · rintro i y σ G hy ⟨gs, v3, v4, rfl, sG, gL, hgl, hex, hgb⟩
      have hy' : (xs.map fun x => V.ref x.1)[i]? = some y := hy
      rw [List.getElem?_map] at hy'
      obtain ⟨x, hx, rfl⟩ := Option.map_eq_some_iff.mp hy'
      have hi : i < rs.length := by
        have := (List.getElem?_eq_some_iff.mp hx).1
        omega
      obtain ⟨r, hr1⟩ : ∃ r, rs[i]? = some r := ⟨rs[i], List.getElem?_eq_getElem hi⟩
      have hA := (hat i x r hx hr1).1.at_
      obtain ⟨⟨ok1, ok2, ok3⟩, okf⟩ := hok r (List.mem_of_getElem? hr1)
      have hdrop : rs.drop i = r :: rs.drop (i + 1) := by
        rw [List.drop_eq_getElem_cons hi]
        rw [List.getElem?_eq_getElem hi] at hr1
        rw [Option.some.inj hr1]
      rw [hdrop, goalsG] at hex
      refine ⟨_, rfl, x.1, r, rfl, hA.same sG, ok1, form_goes okf, fun G1 s1' => ?_⟩
      dsimp only [gName, List.set]
      have s3 := Same.trans sG s1'
      have gL1 := s1' _ _ gL
      have gD1 := s3 _ _ hD
      obtain ⟨dx, tl, pl, a1, a2, a3⟩ := hA.same s3
      have inw : inV (V.str (wS r)) [V.str "jump", V.str "call"] = decide (wS r = "jump" ∨ wS r = "call") := by
        rw [show [V.str "jump", V.str "call"] = [("jump" : Str), "call"].map V.str from rfl, in_strs]
        exact decide_eq_decide.mpr (by simp)
      refine sqT ?_
      cases hg : goalT r with
      | none =>
        rw [hg] at hex
        have hnw : ¬ (wS r = "jump" ∨ wS r = "call") := fun h => by
          have hgo : goesS r = true := by
            unfold goesS
            rcases h with h | h
            · rw [h]; decide +kernel
            · rw [h]; decide +kernel
          have := form_goes okf hgo
          unfold goalT at hg
          rw [if_pos hgo] at hg
          cases hp : r.parts with
          | nil => exact this hp
          | cons p ps => rw [hp] at hg; cases hg
        refine ⟨_, rfl, rfl, _, rfl, itF rfl (itF rfl (nextT ?_))⟩
        dsimp only
        refine ⟨_, rfl, .inl ⟨rfl, _, SqL.of gL1⟩, _, rfl, x.1, CR, dx, _, _, rfl, a1, T.cl, T.n _ m_word, rf_word _ _ _ _ _ _, line5 (by simp), fun U hU => ?_⟩
        have s2 : Same G1 (upd G1 U (.tup [V.str "jump", V.str "call"])) := Same.add hU
        have e2 : (upd G1 U (.tup [V.str "jump", V.str "call"])) U = some (.tup [V.str "jump", V.str "call"]) := upd_same
        generalize upd G1 U (.tup [V.str "jump", V.str "call"]) = G2 at s2 e2 ⊢
        refine ⟨U, _, rfl, .inr (SqT.of e2), rfl, rfl, _, rfl, ?_⟩
        rw [if_neg Bool.false_ne_true, inw, decide_eq_false hnw]
        refine itF rfl ⟨L, _, _, rfl, rfl, s2 _ _ gL1, lineT (by rw [List.length_map]; omega), ?_⟩
        refine ⟨gs ++ [none], _, _, rfl, Same.mut (Same.trans s3 s2) nL, by rw [upd_same, List.map_append]; rfl, by rw [List.length_append, hgl]; rfl, hex, fun g hg => ?_⟩
        rcases List.mem_append.mp hg with h | h
        · exact hgb g h
        · cases List.mem_singleton.mp h
      | some p =>
        rw [hg] at hex
        refine ⟨_, rfl, rfl, _, rfl, itT rfl ⟨_, rfl, _, rfl, D, _, rfl, DGet.k (k := Sum.inr (mk p)) gD1, _, rfl, ?_⟩⟩
        rw [vNm_at]
        dsimp only at hex
        cases hn : ns.lookup p with
        | none =>
          rw [hn] at hex
          exact itT rfl ⟨_, rfl, x.1, CR, dx, _, _, rfl, a1, T.cl, T.n _ m_number, rf_number _ _ _ _ _ _, by simp, ⟨_, _, rfl, small_lg ok3, by decide +kernel⟩, fun d hd => qn _ _ hex _ s3 d _ (Same.add hd) hd upd_same⟩
        | some n =>
          rw [hn] at hex
          dsimp only at hex
          refine itF rfl (nextT ?_)
          dsimp only
          refine ⟨_, rfl, .inl ⟨rfl, _, SqL.of gL1⟩, _, rfl, x.1, CR, dx, _, _, rfl, a1, T.cl, T.n _ m_word, rf_word _ _ _ _ _ _, line5 (by simp), fun U hU => ?_⟩
          have s2 : Same G1 (upd G1 U (.tup [V.str "jump", V.str "call"])) := Same.add hU
          have e2 : (upd G1 U (.tup [V.str "jump", V.str "call"])) U = some (.tup [V.str "jump", V.str "call"]) := upd_same
          generalize upd G1 U (.tup [V.str "jump", V.str "call"]) = G2 at s2 e2 ⊢
          refine ⟨U, _, rfl, .inr (SqT.of e2), rfl, rfl, _, rfl, ?_⟩
          rw [if_neg Bool.false_ne_true, inw]
          have gD2 := s2 _ _ gD1
          by_cases c : wS r = "jump" ∨ wS r = "call"
          · rw [decide_eq_true c]
            rw [if_pos c] at hex
            have hv : valV (vNm ns) (.inr (mk p)) = some (.int (n : Nat)) := by rw [vNm_at, hn]; rfl
            have hget : DGet G2 D (.str (mk p)) (some (.int (n : Nat))) := by
              rw [← hv]
              exact DGet.k (k := Sum.inr (mk p)) gD2
            refine itT rfl ⟨_, rfl, _, rfl, D, _, rfl, hget, L, _, _, rfl, rfl, s2 _ _ gL1, lineT (by rw [List.length_map]; omega), ?_⟩
            refine ⟨gs ++ [some n], _, _, rfl, Same.mut (Same.trans s3 s2) nL, by rw [upd_same, List.map_append]; rfl, by rw [List.length_append, hgl]; rfl, hex, fun g hg => ?_⟩
            rcases List.mem_append.mp hg with h | h
            · exact hgb g h
            · obtain rfl := Option.some.inj (List.mem_singleton.mp h)
              exact hns _ (lookup_memT hn)
          · rw [decide_eq_false c]
            rw [if_neg c] at hex
            refine itF rfl ⟨L, _, _, rfl, rfl, s2 _ _ gL1, lineT (by rw [List.length_map]; omega), ?_⟩
            refine ⟨gs ++ [none], _, _, rfl, Same.mut (Same.trans s3 s2) nL, by rw [upd_same, List.map_append]; rfl, by rw [List.length_append, hgl]; rfl, hex, fun g hg => ?_⟩
            rcases List.mem_append.mp hg with h | h
            · exact hgb g h
            · cases List.mem_singleton.mp h
    · rintro σ G ⟨gs, v3, v4, rfl, sG, gL, hgl, hex, hgb⟩
      rw [lx, List.drop_length, goalsG] at hex
      rw [lx] at hgl
      refine ⟨_, rfl, rl, rfl, ⟨_, SqL.of (sG _ _ hRL)⟩, fun Z hZ => lc_list (K := K) (a := rl) (xs := xs.map fun x => V.ref x.1) (fun i G2 => Same G G2 ∧ G2 Z = some (.lst (vNat ((rs.take i).map leastT)))) ⟨Same.add hZ, upd_same⟩ (fun _ _ _ k => SqL.of (k.1 _ _ (sG _ _ hRL))) ?_ ?_⟩
      · rintro i y G2 hy ⟨k1, k2⟩
        have hy' : (xs.map fun x => V.ref x.1)[i]? = some y := hy
        rw [List.getElem?_map] at hy'
        obtain ⟨x, hx, rfl⟩ := Option.map_eq_some_iff.mp hy'
        have hi : i < rs.length := by
          have := (List.getElem?_eq_some_iff.mp hx).1
          omega
        obtain ⟨r, hr1⟩ : ∃ r, rs[i]? = some r := ⟨rs[i], List.getElem?_eq_getElem hi⟩
        have hA := (hat i x r hx hr1).1.at_
        obtain ⟨⟨ok1, ok2, ok3⟩, okf⟩ := hok r (List.mem_of_getElem? hr1)
        refine ⟨rfl, _, rfl, x.1, r, rfl, hA.same (Same.trans sG k1), ok1, form_room okf, fun G3 s3 => ⟨_, s3 _ _ k2, lineT (by unfold vNat; rw [List.length_map, List.length_map, List.length_take]; omega), Same.mut (Same.trans k1 s3) hZ, ?_⟩⟩
        rw [upd_same, takeS hr1, List.map_append]
        unfold vNat
        rw [List.map_append]
        rfl
      · rintro G2 ⟨k1, k2⟩
        rw [lx, List.take_length] at k2
        have sG2 := Same.trans sG k1
        refine ⟨_, rfl, Z, L, gs, rs.map leastT, rfl, by rw [List.length_map, hgl], SqL.of k2, SqL.of (k1 _ _ gL), by omega, fun g hg => by rw [hgl]; exact hgb g hg, fun S G3 s3 hS hS3 => qy gs hex S G3 (Same.trans sG2 s3) (free_of sG2 hS) hS3⟩
abbrev KnSizes (P : Program) (w : World) (K : PySem.W.Frag) (mg : Str → Option Value) (base : Heap) (CR : Addr) : Prop := Kn P w K mg base (L2.CX P w) 4 "sizes_of" ["rows", "numbers"] [] (spSizes K CR)
def spLen (K : PySem.W.Frag) (CR : Addr) : Sp := fun vs H Q E => ∃ (rl S : Addr) (rs : List Rw) (sz : List Nat), vs = [.ref rl, .ref S] ∧ Rows CR H rl rs ∧ (∀ r ∈ rs, RwL r) ∧ rs.length ≤ 300 ∧ sz.length = rs.length ∧ H S = some (.lst (vNat (spots sz))) ∧
  (longG sz 0 rs = none → ∀ H', Same H H' → Q .non H') ∧ (∀ n, longG sz 0 rs = some n → ∀ H', Same H H' → Rfs K E H' n "long")
abbrev N_check_length : List Str := ["rows", "starts", "number", "row"]
theorem sc_check_length : FnScope ["rows", "starts", "number", "row"] ["rows", "starts"] (defScope s_check_length) := ⟨rfl, rfl, rfl, by decide +kernel, rfl, by decide +kernel, by decide +kernel⟩
theorem ok_len (F : FnP K "check_length" s_check_length dvs f fd) (T : CT K CR RFN) (b_BadRow : BadRo P w K mg base) (g_enumerate : mg "enumerate" = none) (g_IMAGE_MOST : ∃ t, mg "IMAGE_MOST" = some (.int 200 t)) : FnOk P w K mg base (L2.CX P w) 3 f fd ["rows", "starts"] (spLen K CR) := by
  obtain ⟨_, g_IMAGE_MOST⟩ := g_IMAGE_MOST
  refine F.ok sc_check_length (fun vs H Q E h => ?_) (fun cdv A outer s H vs Q E hr h => ?_)
  · obtain ⟨rl, S, rs, sz, rfl, _⟩ := h
    rfl
  · obtain ⟨rl, S, rs, sz, rfl, hR, hok, hl, hsz, hS, qy, qn⟩ := h
    refine ⟨_, (pss_one (ps_for (passes_of rfl) rfl (pi_enum rfl g_enumerate (pa_cons (pv 0) pa_nil)) (pg_tup rfl (pgs_cons (pg_name (i := 2) sc_check_length.nd rfl (Or.inl rfl)) (pgs_cons (pg_name (i := 3) sc_check_length.nd rfl (Or.inl rfl)) pgs_nil)))
      (pss_one (ps_if (pt_cmpR op_gt (pe_ix ix_list (pv 1) (pe_op op_add (pv 2) pe_int) (fun _ _ => rfl)) (pe_glob (v := .int 200) rfl g_IMAGE_MOST ⟨_, rfl⟩) (nomark _)) (pss_one (ps_raise rfl (takes_of rfl rfl rfl rfl) (pmk_bad b_BadRow hr (by decide) rfl (pa_cons (pe_fld (pv 3) rfl) (pa_cons pe_str pa_nil))))) pss_nil)))), ?_⟩
    obtain ⟨xs, hL, hxl, hat⟩ := hR
    have lx : (xs.map fun x => V.ref x.1).length = rs.length := by rw [List.length_map]; exact hxl
    refine ⟨_, rfl, rl, _, rfl, SqL.of hL, for_it (walk_enum (xs := xs.map fun x => V.ref x.1)) (fun i σ G => ∃ (v2 v3 : Option V), σ = [some (.ref rl), some (.ref S), v2, v3] ∧ Same H G ∧ longG sz 0 rs = longG sz i (rs.drop i))
      ⟨none, none, rfl, Same.refl _, rfl⟩ (fun i σ G _ ⟨_, _, _, h, _⟩ => SqL.of (h _ _ hL)) ?_ ?_⟩
    · rintro i x σ G G' hi ⟨v2, v3, rfl, sG, hex⟩ ⟨T1, y, z, rfl, hT1, rfl, hy, hz⟩
      rw [lx] at hi
      obtain rfl : V.int (i : Nat) = y := Option.some.inj hy
      have hz' : (xs.map fun x => V.ref x.1)[i]? = some z := hz
      rw [List.getElem?_map] at hz'
      obtain ⟨x, hx, rfl⟩ := Option.map_eq_some_iff.mp hz'
      obtain ⟨r, hr1⟩ : ∃ r, rs[i]? = some r := ⟨rs[i], List.getElem?_eq_getElem hi⟩
      have hA := (hat i x r hx hr1).1.at_
      obtain ⟨ok1, ok2, ok3⟩ := hok r (List.mem_of_getElem? hr1)
      have hdrop : rs.drop i = r :: rs.drop (i + 1) := by
        rw [List.drop_eq_getElem_cons hi]
        rw [List.getElem?_eq_getElem hi] at hr1
        rw [Option.some.inj hr1]
      rw [hdrop, longG] at hex
      have sT : Same G (upd G T1 (.tup [V.int (i : Nat), V.ref x.1])) := Same.add hT1
      have eT : (upd G T1 (.tup [V.int (i : Nat), V.ref x.1])) T1 = some (.tup [V.int (i : Nat), V.ref x.1]) := upd_same
      generalize upd G T1 (.tup [V.int (i : Nat), V.ref x.1]) = G3 at sT eT ⊢
      have s3 := Same.trans sG sT
      have hsp : atI (vNat (spots sz)) (((i : Nat) : Int) + 1) = some (.int (lay sz (i + 1) : Nat)) := atI_nat (j := i + 1) (by
        unfold vNat spots
        rw [List.getElem?_map, List.getElem?_map, List.getElem?_range (by omega)]
        rfl)
      refine ⟨T1, _, rfl, SqT.of eT, rfl, _, _, rfl, _, _, rfl, rfl, ?_⟩
      dsimp only [gName, List.set]
      refine ⟨_, rfl, _, rfl, _, _, rfl, rfl, S, _, _, _, rfl, rfl, SqL.of (s3 _ _ hS), hsp, _, _, rfl, rfl, _, rfl, ?_⟩
      obtain ⟨dx, tl, pl, a1, a2, a3⟩ := hA.same s3
      by_cases c : 200 < lay sz (i + 1)
      · rw [if_pos c] at hex
        refine itT (decide_eq_true (by omega)) ⟨_, rfl, x.1, CR, dx, _, _, rfl, a1, T.cl, T.n _ m_number, rf_number _ _ _ _ _ _, by simp, ⟨_, _, rfl, small_lg ok3, by decide +kernel⟩, fun d hd => qn _ hex _ s3 d _ (Same.add hd) hd upd_same⟩
      · rw [if_neg c] at hex
        exact itF (decide_eq_false (by omega)) ⟨_, _, rfl, s3, hex⟩
    · rintro σ G ⟨v2, v3, rfl, sG, hex⟩
      rw [lx, List.drop_length, longG] at hex
      exact qy hex G sG
abbrev KnLen (P : Program) (w : World) (K : PySem.W.Frag) (mg : Str → Option Value) (base : Heap) (CR : Addr) : Prop := Kn P w K mg base (L2.CX P w) 3 "check_length" ["rows", "starts"] [] (spLen K CR)
end
end Bm
set_option maxHeartbeats 1000000
/-! dict(d): another dict with the same -/
namespace Bm
open PySem PySem.Spec PyProof.Rows L2
def rDcopy : List V → Hp → VK → Prop := fun xs H Q => ∃ (a : Addr) (kvs : List (Key × V)), xs = [.ref a] ∧ H a = some (.dK kvs) ∧ ∀ p, H p = none → Q (.ref p) (upd H p (.dK kvs))
theorem call_dcopy {X : Cx} : CallR X (.type "dict") rDcopy := by
  intro pins s σ H xs us Q I r q
  obtain ⟨a, kvs, rfl, e, q⟩ := q
  obtain ⟨u, eu, rx⟩ := vals1 r
  subst eu
  cases rx
  exact d_copyOf I (.inl e) fun p s' hp I' => ⟨.ref p, _, I', rfl, q p hp⟩
end Bm
set_option maxHeartbeats 2000000
/-! a list comprehension out of whose element a call's exception may come -/
namespace Bm
open PySem PySem.Spec PyProof.Rows L2
/-- a call's exception, let out of a block -/
def outB (X : Cx) (a : Shared) (G : Hp) (sc : Scope) (ce : Env) (ws : List Addr) (E : XK) : Value → Shared → Prop := fun u t => ∃ (ps : List (Addr × Obj)) (ρ : L2.St) (G' : Hp) (b : Shared), Inv (X.blk a G sc ce ws) ps ρ G' b ∧ L2.CX X.prog X.w X.stack G' b E u t
abbrev blkX (X : Cx) (E : XK) (a : Shared) (G : Hp) (sc : Scope) (ce : Env) (ws : List Addr) : Cx := (X.blk a G sc ce ws).wish (outB X a G sc ce ws E)
theorem passB1 {X : Cx} {E : XK} {a : Shared} {G : Hp} {sc : Scope} {ce : Env} {ws : List Addr} : Passes (L2.CX X.prog X.w) (blkX X E a G sc ce ws) E := fun ps ρ G' b u t J c => ⟨ps, ρ, G', b, J.unwish, c⟩
section
variable {M : Model} {A : Around} {E : Value → Shared → Prop} {s : Shared} {env : Env}
/-- noting a frame leans on the frame alone -/
theorem note_frame {e : Value} {n1 n2 : Env} (h : n1.frame = n2.frame) : noteFrame e n1 = noteFrame e n2 := by
  unfold noteFrame PySem.frameOf
  rw [h]
/-- what stands behind a comprehension's block, its names' dict let go -/
def postB (M : Model) (A : Around) (E : Value → Shared → Prop) (Q : Value → Shared → Prop) (acc : Value) (ce : Env) (r : Result) (t : Shared) : Prop := ∃ m, t.heap.Ns ce.locals m ∧ ∀ g, Heap.SameBut ce.locals t.heap g → match r with
  | .ok _ => Q acc { t with heap := g }
  | .error x => wpAny M A (passOn "comprehension.variables-let-go" x ce : Sem Value) (fun _ _ => False) E { t with heap := g }
theorem comp_wp {e : Expr} {sc : Scope} {pos : Pos} {na fst : Sem Value} {g : Comprehension} {gs : List Comprehension} {cl : List (Str × Addr)} {Q : Value → Shared → Prop}
    (e1 : clausesOf e = g :: gs) (e2 : ∀ x, foldedSetIterable g.iter env x = pure x) (e3 : closureFor sc env = pure cl) (e4 : sc.kind = .function) (e5 : ∀ x ∈ sc.names, x.2 = .local → sc.names.lookup x.1 = some .local)
    (h : wpAny M A fst (fun x t1 => wpAny M A (pyIter x) (fun it t2 => wpAny M A na (fun acc t3 => wpAny M A (newFunctionEnv sc env.globals cl [] env.qual none .none (some env)) (fun ce t4 =>
      codeAny M A (.compStart e 0 it acc { ce with scope := relabel sc env }) (postB M A E Q acc { ce with scope := relabel sc env }) t4) E t3) E t2) E t1) E s) :
    wpAny M A (comprehension e sc env pos na false fst none) Q E s := by
  unfold comprehension
  rw [e3, e1]
  refine wpAny_bind (wpAny_mono h (fun x t1 h1 => ?_) fun _ _ z => z)
  refine wpAny_bind (wpAny_standAt (wpAny_bind (wpAny_of_eq (e2 x) (wpAny_bind (wpAny_holding (wpAny_mono h1 (fun it t2 h2 => ?_) fun _ _ z => z))))))
  refine wpAny_standIf (wpAny_bind (wpAny_mono h2 (fun acc t3 h3 => ?_) fun _ _ z => z))
  refine wpAny_bind (wpAny_pure (wpAny_bind (wpAny_mono h3 (fun ce t4 h4 => ?_) fun _ _ z => z)))
  dsimp only
  have names : ∀ x ∈ (sc.names.filter fun x => (x.2 == .local || x.2 == .cell) && x.1 != (".0" : Str)).reverse, x.2 = .local → Env.kindOf { ce with scope := relabel sc env } x.1 = some .local := fun x hx hl => by
    have hx := (List.mem_filter.mp (List.mem_reverse.mp hx)).1
    exact lookup_relabel_local (e5 x hx hl)
  refine wpAny_holding (wpAny_bind (wpAny_attempt (wpAny_holding (wpAny_run (codeAny_mono h4 fun r t5 hr => ?_)))))
  obtain ⟨m, hm, hr⟩ := hr
  cases r with
  | ok f => exact wpAny_bind (wpAny_holding (wpAny_comp_letGo (cenv := { ce with scope := relabel sc env }) e4 _ t5 m names hm fun g _ _ hg => wpAny_pure (hr g hg)))
  | error x => exact wpAny_bind (wpAny_holding (wpAny_comp_letGo (cenv := { ce with scope := relabel sc env }) e4 _ t5 m names hm fun g _ _ hg => wpAny_mono (hr g hg) (fun _ _ z => z.elim) fun _ _ z => z))
end
section
variable {X : Cx} {E : XK}
theorem funFrames_on {base h h' : Heap} : ∀ {l : List Env}, h.FunFrames base l → (∀ b ∈ frs l, ∀ o, h.get? b = some o → (∀ vs, o.data ≠ .fields vs) → ∃ o', h'.get? b = some o' ∧ o'.data = o.data) → h'.FunFrames base l
  | [], _, _ => True.intro
  | n :: l, x, k => by
    obtain ⟨x1, ⟨L, o, y1, y2, y3, y4⟩, x2⟩ := x
    obtain ⟨o', z1, z2⟩ := k L (List.mem_filterMap.mpr ⟨n, List.mem_cons_self, y1⟩) o y3 y4
    refine ⟨x1, ⟨L, o', y1, y2, z1, fun vs => by rw [z2]; exact y4 vs⟩, funFrames_on x2 fun b hb => k b ?_⟩
    obtain ⟨n2, w1, w2⟩ := List.mem_filterMap.mp hb
    exact List.mem_filterMap.mpr ⟨n2, List.mem_cons_of_mem _ w1, w2⟩
/-- an exception that goes out of the block goes out of the def -/
theorem out_ok {pins : List (Addr × Obj)} {σ : L2.St} {G : Hp} {a : Shared} {sc : Scope} {ce : Env} {ws : List Addr} {Q : Value → Shared → Prop} {acc u : Value} {t : Shared} (hst : X.stack = X.env :: X.outer) (hfr : X.env.frame = some X.env.locals) (tk : Takes X (fun c d _ H => E c d H))
    (I : Inv X pins σ G a) (hw : ∀ b ∈ ws, FpOk X pins G b) (cf : ce.frame = X.env.frame) (cL : ce.locals = a.heap.objs.size) (x : outB X a G sc ce ws E u t) :
    notedBy (model X.prog X.w) X.A ce (fun u t => postB (model X.prog X.w) X.A X.xe Q acc ce (.error u) t) u t := by
  obtain ⟨ps, ρ, G', b, J, c⟩ := x
  obtain ⟨n, hn, _⟩ := J.loc
  have hn : b.heap.Ns ce.locals n := hn
  have nC : G' ce.locals = none := J.free
  have J7 : Inv X pins σ G' b := I.call' (ch := ws) J.os J.base J.hok J.bare fun y hy => ⟨(hw y hy).2.2.2.1, (hw y hy).2.1, (hw y hy).2.2.2.2.1, (hw y hy).2.2.2.2.2⟩
  have fC : FpOk X pins G' ce.locals := I.fpOk (Nat.le_of_eq cL.symm) nC
  obtain ⟨e, B, G2, cls, d, rfl, fl, hok, ub, na, os, ag, hE⟩ := c
  have fr : frs X.stack = X.env.locals :: frs X.outer := by
    rw [hst]
    unfold frs
    rw [List.filterMap_cons, hfr]
  have sC : ce.locals ∉ frs X.stack := fun z => by
    rw [fr] at z
    exact (List.mem_cons.mp z).elim fC.2.1 fC.2.2.1
  obtain ⟨oC, hC⟩ : ∃ o, b.heap.get? ce.locals = some o := by
    obtain ⟨_, _, _, ho, _⟩ := hn
    exact ⟨_, ho⟩
  have bC : B.get? ce.locals = some oC := ub.keep _ _ hC nC sC
  have stay : B.StaysIn t.heap := fl.1
  have frA : X.A.frames = some (X.env :: X.outer) := I.ok.frames.trans (congrArg some hst)
  show wpAny _ _ (noteFrame (.ref e) ce) _ _ t
  rw [note_frame cf]
  rw [hst] at fl
  refine HandSPX.looks_onZ Zc.steady frA hfr fl fun g hh up => ?_
  obtain ⟨k1, k2, k3, oe, vs, T, oT, ts, he, hz, hd, h1, hT0, hTe, hT, hdT, h3⟩ := hh
  refine ⟨n, hn.at fun o ho => ?_, fun g2 sb => ?_⟩
  · rw [hC] at ho
    rw [← Option.some.inj ho]
    exact k1 _ _ bC
  have nCe : e ≠ ce.locals := fun z => by rw [← z, k2] at bC; cases bC
  have nCT : T ≠ ce.locals := fun z => by rw [← z, hT0] at bC; cases bC
  have he2 : g2.get? e = some oe := (sb.2 e nCe).trans he
  have hT2 : g2.get? T = some oT := (sb.2 T nCT).trans hT
  unfold PySem.passOn
  refine wpAny_bind (wpAny_field he2 hd h1 ?_)
  rw [if_neg (show ¬ (Value.ref T == Value.none) = true from fun z => by cases z)]
  refine wpAny_bind ?_
  unfold setFlight
  refine wpAny_bind (wpAny_field he2 hd h1 ?_)
  rw [if_pos (show (Value.ref T != Value.none) = true from rfl), cf, hfr]
  refine wpAny_setField hT2 hdT (Array.getElem?_eq_some_iff.mp h3).1 ?_
  refine wpAny_throw (tk _ _ ?_)
  have hT4 := Heap.get?_update_self (Obj.mapFields (·.setIfInBounds 3 (rawInt X.env.locals))) hT2 (Obj.isFreed_of_fields (Obj.data_mapFields hdT _))
  have far : ∀ y, y ≠ T → (g2.update T (Obj.mapFields (·.setIfInBounds 3 (rawInt X.env.locals)))).get? y = g2.get? y := fun y hy => Heap.get?_update_other _ _ hy.symm
  show XE X _ (.ref e) { t with heap := g2.update T (Obj.mapFields (·.setIfInBounds 3 (rawInt X.env.locals))) }
  generalize g2.update T (Obj.mapFields (·.setIfInBounds 3 (rawInt X.env.locals))) = g4 at hT4 far ⊢
  have nT : ∀ y o, g2.get? y = some o → (∀ vs, o.data ≠ .fields vs) → y ≠ T := fun y o ho hv z => by
    rw [z, hT2] at ho
    rw [← Option.some.inj ho] at hv
    exact hv _ hdT
  -- what is kept of all that stood there
  have keepB : ∀ y o, B.get? y = some o → y ≠ ce.locals → g4.get? y = some o := fun y o ho hy => by
    rw [far y (fun z => by rw [z, hT0] at ho; cases ho), sb.2 y hy]
    exact k1 y o ho
  have keepF : ∀ y o, t.heap.get? y = some o → (∀ vs, o.data ≠ .fields vs) → y ≠ ce.locals → ∃ sl, g4.get? y = some { o with slots := sl } := fun y o ho hv hy => by
    obtain ⟨sl, q⟩ := up y o ho hv
    have q2 := (sb.2 y hy).trans q
    exact ⟨sl, (far y (nT y _ q2 hv)).trans q2⟩
  obtain ⟨G5, r1, r2⟩ := restrict t.heap fun y => (B.get? y).isSome || decide (y ∈ frs X.stack)
  have inG : ∀ y o, B.get? y = some o → G5.get? y = some o := fun y o ho => (r1 y (by rw [ho]; rfl)).trans (stay y o ho)
  have inF : ∀ y, y ∈ frs X.stack → G5.get? y = t.heap.get? y := fun y hy => r1 y (by rw [decide_eq_true hy, Bool.or_true])
  have ofG : ∀ y o, G5.get? y = some o → t.heap.get? y = some o ∧ (y ∉ frs X.stack → B.get? y = some o) := fun y o ho => by
    cases q : (B.get? y).isSome || decide (y ∈ frs X.stack) with
    | false => rw [r2 y q] at ho; cases ho
    | true =>
      rw [r1 y q] at ho
      refine ⟨ho, fun hy => ?_⟩
      rw [decide_eq_false hy, Bool.or_false] at q
      obtain ⟨o2, ho2⟩ := Option.isSome_iff_exists.mp q
      rw [ho2, ← ho]
      exact (stay y o2 ho2).symm
  have J8 : Inv X pins σ G2 { b with heap := G5, gens := t.gens, drawn := t.drawn, toks := t.toks } := by
    refine J7.call (ch := []) ⟨fun y o ho nh hy _ => inG y o (ub.keep y o ho nh hy), fun y o ho _ hy _ => ?_, fun y o ho nh _ => ub.free y o ho nh, fun y o ho _ => ?_, ub.tups, ub.frzs, ub.tbls⟩ (hok.kept inG) ag (fun _ z => nomatch z)
    · obtain ⟨sl, q⟩ := ub.slot y o ho hy
      exact ⟨sl, (inF y hy).trans q⟩
    · by_cases hy : y ∈ frs X.stack
      · obtain ⟨sl, q⟩ := ub.slot y o ho hy
        exact ⟨_, (inF y hy).trans q⟩
      · obtain ⟨o2, q⟩ := ub.there y o ho hy
        exact ⟨o2, inG y o2 q⟩
  obtain ⟨G6, q1, q2⟩ := restrict G5 fun y => decide (y ≠ ce.locals)
  have J9 : Inv X pins σ G2 { b with heap := G6, gens := t.gens, drawn := t.drawn, toks := t.toks } := J8.turned (h' := G6) (t' := t.toks) (it := ce.locals) (fun y o hy ho => (q1 y (decide_eq_true hy)).trans ho) (ub.free _ _ hC nC) fC.2.1 fC.2.2.2.1 fC.2.2.2.2.1 fC.2.2.2.2.2
  have ofG6 : ∀ y o, G6.get? y = some o → y ≠ ce.locals ∧ G5.get? y = some o := fun y o ho => by
    by_cases hy : y = ce.locals
    · rw [q2 y (decide_eq_false fun z => z hy)] at ho
      cases ho
    · exact ⟨hy, (q1 y (decide_eq_true hy)).symm.trans ho⟩
  obtain ⟨B6, p1, p2⟩ := restrict B fun y => decide (y ≠ ce.locals)
  have ofB6 : ∀ y o, B6.get? y = some o → y ≠ ce.locals ∧ B.get? y = some o := fun y o ho => by
    by_cases hy : y = ce.locals
    · rw [p2 y (decide_eq_false fun z => z hy)] at ho
      cases ho
    · exact ⟨hy, (p1 y (decide_eq_true hy)).symm.trans ho⟩
  have noB6 : ∀ y, B.get? y = none → B6.get? y = none := fun y hy => by
    cases q : B6.get? y with
    | none => rfl
    | some o => rw [(ofB6 y o q).2] at hy; cases hy
  refine ⟨e, B6, _, pins, σ, G2, cls, d, rfl, J9, fun y o ho hy => ?_, fun y o ho hv => ?_, .inr (.inr ⟨fun y o ho => keepB y o (ofB6 y o ho).2 (ofB6 y o ho).1, noB6 e k2, ?_, oe, vs, T, _, _, (far e hTe.symm).trans he2, hz, hd, h1, noB6 T hT0, hTe, hT4, Obj.data_mapFields hdT _, ?_⟩), na, os, ag, hE⟩
  · obtain ⟨z1, z2⟩ := ofG6 y o ho
    exact (p1 y (decide_eq_true z1)).trans ((ofG y o z2).2 hy)
  · obtain ⟨z1, z2⟩ := ofG6 y o ho
    exact keepF y o (ofG y o z2).1 hv z1
  · rw [hst]
    refine funFrames_on (funFrames_none k3 fun y hy => noB6 y (k3.mem hy).1) fun y hy o ho hv => ?_
    have yC : y ≠ ce.locals := fun z => sC (by rw [← z, hst]; exact hy)
    have q := (sb.2 y yC).trans ho
    exact ⟨o, (far y (nT y o q hv)).trans q, rfl⟩
  · have z3 := (Array.getElem?_eq_some_iff.mp h3).1
    rw [Array.getElem?_setIfInBounds]
    simp [z3]
/-- [elt for target in iter if ..] as a value: E what a call in elt may let out -/
theorem pe_lcX {elt tg src : Expr} {cs : List Expr} {sc : Scope} {own : List (Str × Nat)} {p : Pos} {wi : TI} {g : TG} {tt : TT} {te : TE} (hst : X.stack = X.env :: X.outer) (hfr : X.env.frame = some X.env.locals) (tk : Takes X (fun c d _ H => E c d H)) (calm : X.calm = true) (nd : X.N.Nodup) (pw : PI X tg src wi) (ok : BlkOk X.N X.env.scope sc own)
    (pg : ∀ (a : Shared) (G : Hp) (C : Addr) (cl : List (Str × Addr)) (ws : List Addr), PG (blkX X E a G sc (compEnvC sc cl C X.env) ws) tg g) (pt : ∀ (a : Shared) (G : Hp) (C : Addr) (cl : List (Str × Addr)) (ws : List Addr), PTs (blkX X E a G sc (compEnvC sc cl C X.env) ws) cs tt)
    (pe : ∀ (a : Shared) (G : Hp) (C : Addr) (cl : List (Str × Addr)) (ws : List Addr), PE (blkX X E a G sc (compEnvC sc cl C X.env) ws) elt te) (fs : ∀ x, foldedSetIterable src X.env x = pure x := by intro _; rfl) :
    PE X (.ListComp elt [⟨tg, src, cs, 0⟩] sc p) (tLc wi g tt te (own.map (·.2))) := by
  refine ⟨fun pins t0 σ G Q I h => ?_⟩
  rw [eval_ListComp]
  have cells : ∀ y ∈ sc.names, y.2 = .free → ∃ c, X.env.cells.lookup y.1 = some c := fun y hy z => (ok.free y hy z).elim (fun k => I.ok.has _ (.inl k)) fun k => I.ok.has _ (.inr k)
  refine comp_wp rfl fs (closure_ok cells) ok.kind (fun y hy z => (ok.uniq y hy).trans (congrArg some z)) (thn (pw.run pins t0 σ G _ I h) fun _ t1 h1 => thn h1 fun _ t2 h2 => ?_)
  obtain ⟨j, ws, tn, J, G2, rfl, I2, T, s2, w2, q⟩ := h2
  refine wpAny_newObj_type (newEnv_comp ?_) (show 0 ≤ sizeLine by decide)
  generalize eD : t2.heap.objs.size = D
  have nD : G2 D = none := I2.hok.fresh (Nat.le_of_eq eD)
  obtain ⟨W, ⟨m0, w0⟩, turn⟩ := q D nD
  generalize e3 : ({ t2 with heap := t2.heap.push { cls := .type "list", data := .seq ([] : List Value).toArray } } : Shared) = t3
  have p3 : t3.heap = t2.heap.push { cls := .type "list", data := .seq ([] : List Value).toArray } := by rw [← e3]
  have I3 : Inv X pins σ (upd G2 D (.lst [])) t3 := by
    rw [← e3]
    refine I2.laid (t' := t2.toks) (fun b o z => Heap.get?_push_of_some _ z) (Nat.le_of_eq eD) ⟨Nat.zero_le _, [], 0, .nil, ?_⟩
    rw [← eD]
    exact Heap.get?_push_size _ rfl
  have w3 : ∀ b ∈ ws, FpOk X pins (upd G2 D (.lst [])) b ∧ b < t3.heap.objs.size := fun b hb => by
    obtain ⟨o, z, _⟩ := T.obj _ _ s2 b hb
    have lt := Heap.lt_size z
    have nb : b ≠ D := fun y => by rw [y, ← eD] at lt; exact Nat.lt_irrefl _ lt
    refine ⟨⟨(upd_ne nb).trans (w2 b hb).1, (w2 b hb).2⟩, ?_⟩
    rw [p3, Heap.size_push]
    exact Nat.lt_succ_of_lt lt
  have s3 : tn 0 t3.heap := T.keep _ _ _ s2 fun b _ o z => by
    rw [p3]
    exact Heap.get?_push_of_some _ z
  have I4 := block_start I3 ok nd w3
  have pg := pg t3 (upd G2 D (.lst [])) t3.heap.objs.size (cellsFrom (t3.heap.objs.size + 1) sc.names (cloFrom X.env.cells sc.names [])) ws
  have pt := pt t3 (upd G2 D (.lst [])) t3.heap.objs.size (cellsFrom (t3.heap.objs.size + 1) sc.names (cloFrom X.env.cells sc.names [])) ws
  have pe := pe t3 (upd G2 D (.lst [])) t3.heap.objs.size (cellsFrom (t3.heap.objs.size + 1) sc.names (cloFrom X.env.cells sc.names [])) ws
  have n3 : ∀ b ∈ ws, (upd G2 D (.lst [])) b = none := fun b hb => (w3 b hb).1.1
  show codeAny _ _ (.compStart (.ListComp elt [⟨tg, src, cs, 0⟩] sc p) 0 (.ref j) (.ref D) (compEnvC sc (cellsFrom (t3.heap.objs.size + 1) sc.names (cloFrom X.env.cells sc.names [])) t3.heap.objs.size X.env)) (postB (model X.prog X.w) X.A X.xe _ (.ref D) (compEnvC sc (cellsFrom (t3.heap.objs.size + 1) sc.names (cloFrom X.env.cells sc.names [])) t3.heap.objs.size X.env)) { t3 with heap := pushCells (t3.heap.push { cls := .type "dict", data := .dict #[] }) sc.names }
  generalize ece : compEnvC sc (cellsFrom (t3.heap.objs.size + 1) sc.names (cloFrom X.env.cells sc.names [])) t3.heap.objs.size X.env = ce at I4 pg pt pe ⊢
  have cL : ce.locals = t3.heap.objs.size := by rw [← ece]; rfl
  have cf : ce.frame = X.env.frame := by rw [← ece]; rfl
  generalize eG : upd G2 D (.lst []) = G3 at I3 I4 pg pt pe w0 n3 w3
  generalize e4 : ({ t3 with heap := pushCells (t3.heap.push { cls := .type "dict", data := .dict #[] }) sc.names } : Shared) = t4 at I4 ⊢
  have s4 : tn 0 t4.heap := T.keep _ _ _ s3 fun b _ o z => by
    rw [← e4]
    exact pushCells_keeps _ _ _ _ (Heap.get?_push_of_some _ z)
  have out := fun (u : Value) (t : Shared) (x : outB X t3 G3 sc ce ws E u t) => out_ok (Q := EP X pins σ Q) (acc := .ref D) hst hfr tk I3 (fun b hb => (w3 b hb).1) cf cL x
  have far : ∀ {ρ : L2.St} {G' : Hp} {t : Shared}, Inv (X.blk t3 G3 sc ce ws) [] ρ G' t → (∀ b ∈ ws, G' b = none) → ∀ b ∈ ws, FpOk (X.blk t3 G3 sc ce ws) [] G' b := fun {ρ G' t} I' n b hb =>
    ⟨n b hb, (I'.ok.exf b hb).1, I'.ok.exfs b hb, .inl hb, fun x c z => (I'.ok.exf b hb).2 x c z, fun y hy => absurd (show y ∈ ([] : List (Addr × Obj)) ++ [] from hy) (by simp)⟩
  have loop : codeAny (model X.prog X.w) X.A (.compLoop (.ListComp elt [⟨tg, src, cs, 0⟩] sc p) 0 (.ref j) (.ref D) ce) (postB (model X.prog X.w) X.A X.xe (EP X pins σ Q) (.ref D) ce) t4 := by
    refine compLoop_any (fun n t => ∃ i G', Inv (X.blk t3 G3 sc ce ws) [] (wipe σ (own.map (·.2))) G' t ∧ tn i t.heap ∧ (∀ b ∈ ws, G' b = none) ∧ W i n G') ?_ m0 ⟨0, G3, I4, s4, n3, w0⟩
    rintro n t5 ⟨i, G5, I5, s5, n5, w5⟩
    rcases turn i n G5 w5 with ⟨stop, qq⟩ | ⟨go, Nx, hNx, step⟩
    · refine thnF (T.done (X.blk t3 G3 sc ce ws) rfl rfl rfl calm i [] t5 _ G5 (fun _ _ => False) I5 (far I5 n5) s5 stop) fun r t6 ⟨er, I6⟩ => ?_
      subst er
      have I7 : Inv X pins σ G5 t6 := I3.call' (ch := ws) I6.os I6.base I6.hok I6.bare fun b hb => ⟨(w3 b hb).1.2.2.2.1, (w3 b hb).1.2.1, (w3 b hb).1.2.2.2.2.1, (w3 b hb).1.2.2.2.2.2⟩
      obtain ⟨m, hm, _⟩ := I6.loc
      have hm : t6.heap.Ns ce.locals m := hm
      have nC : G5 ce.locals = none := I6.free
      obtain ⟨f0, f1, f2, f3, f4, f5⟩ := I3.fpOk (H' := G5) (Nat.le_of_eq cL.symm) nC
      exact ⟨m, hm, fun g6 sb => ⟨.ref D, G5, I7.turned (t' := t6.toks) (fun b o hb z => (sb.2 b hb).trans z) f0 f1 f3 f4 f5, rfl, qq⟩⟩
    · refine thnF (T.item (X.blk t3 G3 sc ce ws) rfl rfl rfl calm i [] t5 _ G5 (fun _ _ => False) I5 (far I5 n5) s5 go) fun r t6 ⟨u, er, h6⟩ => ?_
      subst er
      refine thnF h6 fun _ t7 ⟨x, G7, I7, r7, y7, s7, n7⟩ => ?_
      have I7p := (I7.pinned (far I7 n7) (T.obj _ _ s7)).wish (outB X t3 G3 sc ce ws E)
      refine wpAny_mono (pg.run _ t7 _ G7 x u _ I7p r7 (step x G7 y7)) (fun _ t8 h8 => ?_) out
      obtain ⟨σ8, G8, I8, hw8, q8⟩ := h8
      refine wpAny_mono (pt.run _ t8 σ8 G8 _ I8 q8) (fun b t9 h9 => ?_) out
      obtain ⟨G9, I9, q9⟩ := h9
      have fin : ∀ {t : Shared} {G' : Hp}, Inv (X.blk t3 G3 sc ce ws) ([] ++ pinsAt ws t7.heap) σ8 G' t → Nx G' → ∃ m, m < n ∧ ∃ i G', Inv (X.blk t3 G3 sc ce ws) [] (wipe σ (own.map (·.2))) G' t ∧ tn i t.heap ∧ (∀ b ∈ ws, G' b = none) ∧ W i m G' := fun {t G'} I' nx => by
        obtain ⟨m', hm, w'⟩ := hNx G' nx
        have at7 : ∀ b ∈ ws, ∀ o, t7.heap.get? b = some o → t.heap.get? b = some o ∧ G' b = none := fun b hb o z => by
          have y := I'.pin (b, o) (List.mem_append_right _ (List.mem_append_right _ (mem_pinsAt hb z)))
          exact ⟨y.1, y.2.1⟩
        refine ⟨m', hm, i + 1, G', (I'.unpinned (pins := [])).weak (by rw [← hw8, wipe_length]) (fun k v z => ?_), T.keep _ _ _ s7 fun b hb o z => (at7 b hb o z).1, fun b hb => ?_, w'⟩
        · rw [← hw8] at z
          exact (wipe_some z).1
        · obtain ⟨o, z, _⟩ := T.obj _ _ s7 b hb
          exact (at7 b hb o z).2
      cases b with
      | false => exact fin I9.unwish q9
      | true =>
        rw [if_pos rfl] at q9 ⊢
        refine wpAny_mono (pe.run _ t9 σ8 G9 _ I9 q9) (fun z ta ha => ?_) out
        obtain ⟨yv, Ga, Ia, ra, acc, hDa, hza, nx⟩ := ha
        exact app_ok (X := X.blk t3 G3 sc ce ws) Ia.unwish hDa hza ra fun tb Ib => fin Ib nx
  exact codeAny_compStart_list loop (T.self X.A 0 _ _ _ s4 loop)
end
end Bm
set_option maxHeartbeats 2000000
/-! a tuple of some items times nought, one or more -/
namespace Bm
open PySem PySem.Spec PyProof.Rows L2
theorem mul_one_t (l : Addr) (items : Array Value) (n : Nat) (dd : Option Addr) (sl : Array (Option Value)) (u : Tok) :
    Meets (Builtin.«tuple.__mul__» ⟨[.ref l, .int 1 u], []⟩) (fun _ R s => s.heap.get? l = some { cls := .type "tuple", dict := dd, data := .seq items n, slots := sl } ∧ R (.ok (.ret (.ref l))) s) :=
  .of_wp fun prog w A R s h => by
    obtain ⟨hp, g, d, tk, os⟩ := s; obtain ⟨hl, h⟩ := h; have f1 := AutoSeq1.idx_int
    wp_walk using wpAny_loadPart' hl
    exact ⟨_, rfl, h⟩
theorem mul_nil_t (l : Addr) (items : Array Value) (n : Nat) (dd : Option Addr) (sl : Array (Option Value)) (u : Tok) (c1 : (items.isEmpty || (0 : Int) == 1) = false) :
    Meets (Builtin.«tuple.__mul__» ⟨[.ref l, .int 0 u], []⟩) (fun _ R s => s.heap.get? l = some { cls := .type "tuple", dict := dd, data := .seq items n, slots := sl } ∧
      R (.ok (.ret (.ref s.heap.objs.size))) { s with heap := s.heap.push { cls := .type "tuple", data := .seq #[] }, toks := s.toks }) :=
  .of_wp fun prog w A R s h => by
    obtain ⟨hp, g, d, tk, os⟩ := s; obtain ⟨hl, h⟩ := h; have f1 := AutoSeq1.idx_int
    wp_walk using wpAny_loadPart' hl
    refine wpAny_ite_false (decide_eq_false (by rw [c1]; exact Bool.false_ne_true)) ?_; wp_walk using wpAny_loadPart' hl
    exact ⟨_, rfl, h⟩
def rRepA (K : PySem.W.Frag) : R2 := fun x y H Q => ∃ l k xs, x = .ref l ∧ y = .int k ∧ SqT K H l xs ∧ xs ≠ [] ∧ 0 ≤ k ∧ k ≤ 1000 ∧ xs.length ≤ 1000 ∧ ∀ p H1, Same H H1 → SqT K H1 p (List.replicate k.toNat xs).flatten → Q (.ref p) H1
section
variable {X : Cx}
theorem op_repA : OpR X (binaryOp .Mult) (rRepA X.K) := by
  intro pins s σ H x y v u Q I rx ry ⟨l, k, xs, e1, e2, hT, hne, h0, h1, hz, q⟩
  by_cases hk : 2 ≤ k
  · exact op_repT pins s σ H x y v u Q I rx ry ⟨l, k, xs, e1, e2, hT, hne, hk, h1, hz, fun p hp => q p _ (Same.add hp) (SqT.of upd_same)⟩
  · subst e1 e2
    cases rx
    obtain ⟨t, rfl⟩ := ry
    obtain ⟨its, r, ⟨⟨cls, dd, data, sl⟩, ho, hc, n, hd⟩, hs⟩ := I.tuple hT
    simp only at hc hd
    subst hc hd
    have ek : k = 0 ∨ k = 1 := by omega
    have hi : its.toArray.isEmpty = false := by
      cases r with
      | nil => exact absurd rfl hne
      | cons a b => rfl
    have road : ∀ {R : Value → Shared → Prop}, wpAny (model X.prog X.w) X.A (call (.builtin "tuple.__mul__") [.ref l, .int k t]) R X.xe s → wpAny (model X.prog X.w) X.A (binaryOp .Mult (.ref l) (.int k t)) R X.xe s := fun h =>
      wpAny_binaryOp_repeat_ref (T := "tuple") (U := "int") (by decide) ⟨_, ho, rfl⟩ (fun s' => typeIs_int s' k t) noFill_tuple_mul F.fills_int_mul F.slot_int_rmul repeat_tuple F.slot_int_index.lookup (call_meets F.slot_int_rmul (typeIs_int s k t) F.entry_int_rmul (F.args_int_rmul_2 _ _) (int_rmul_tuple k t l its.toArray n dd sl) ⟨ho, rfl, ⟨_, ho, rfl⟩, h⟩)
    rcases ek with rfl | rfl
    · refine road (call_meets F.slot_tuple_mul ⟨_, ho, rfl⟩ F.entry_tuple_mul (F.args_tuple_mul_2 _ _) (mul_nil_t l its.toArray n dd sl t (by rw [hi]; rfl)) ⟨ho, ?_⟩)
      refine ⟨.ref s.heap.objs.size, _, I.laid (t' := s.toks) (o := .tup []) (fun b ob q => Heap.get?_push_of_some _ q) (Nat.le_refl _) ⟨Nat.zero_le _, [], .nil, IsTup.new _ _⟩, rfl, q _ _ (Same.add (I.hok.fresh (Nat.le_refl _))) (SqT.of upd_same)⟩
    · refine road (call_meets F.slot_tuple_mul ⟨_, ho, rfl⟩ F.entry_tuple_mul (F.args_tuple_mul_2 _ _) (mul_one_t l its.toArray n dd sl t) ⟨ho, ?_⟩)
      have e : (List.replicate (1 : Int).toNat xs).flatten = xs := by simp
      exact ⟨.ref l, H, I, rfl, q l H (Same.refl H) (by rw [e]; exact hT)⟩
end
end Bm
set_option maxHeartbeats 1000000
namespace Bm
open PySem PySem.Spec PyProof.Rows L2
/-- what a row's words are, by what names mean: told of some rows -/
abbrev WFn := (Tx → Option Int) → Rw → Nat → Rs (List Int)
def TellsW (K : PySem.W.Frag) (H : Hp) (Q : VK) (E : XK) (n : Nat) (r : Rs (List Int)) : Prop := match r with
  | .ok ws => ∀ U H', Same H H' → SqT K H' U (ws.map V.int) → Q (.ref U) H'
  | .bad y => ∀ H', Same H H' → Rfs K E H' n y
/-- what a row's goal stands for -/
def GoalIn (nm : Tx → Option Int) (r : Rw) : Prop := ∀ p, goalT r = some p → ∃ g : Nat, nm p = some (g : Int) ∧ g ≤ 200
def spRowW (K : PySem.W.Frag) (CR : Addr) (W : WFn) (OK : Rw → Prop) : Sp := fun vs H Q E => ∃ (a d : Addr) (r : Rw) (n : Nat) (nm : Tx → Option Int), vs = [.ref a, .int (n : Nat), .ref d] ∧ RAt CR H a r ∧ RwL r ∧ isFormT r = true ∧ OK r ∧ NmAt H d nm ∧ (∀ p i, nm p = some i → Bil i) ∧ n ≤ 200 ∧ GoalIn nm r ∧ (∃ g : Nat, nm HERE = some (g : Int) ∧ g ≤ 200) ∧ TellsW K H Q E r.number (W nm r n)
/-- words of sums alone -/
noncomputable def sumsW (nm : Tx → Option Int) : List Tx → Rs (List Int)
  | [] => .ok []
  | p :: ps => match sumT nm p (-32768) 65535 with
    | .bad y => .bad y
    | .ok i => match sumsW nm ps with
      | .bad y => .bad y
      | .ok is => .ok (i % 65536 :: is)
noncomputable def wSim : WFn := fun nm r _ => if wS r = ".word" then sumsW nm r.parts else .ok []
def okSim (r : Rw) : Prop := wS r = "" ∨ wS r = ".let" ∨ wS r = ".word"
section
variable {P : Program} {w : World} {K : PySem.W.Frag} {mg : Str → Option Value} {base : Heap} {f CR : Addr} {fd : FuncData} {dvs : List V}
abbrev N_row_words : List Str := ["row", "size", "names", "d", "a", "part"]
theorem sc_row_words : FnScope ["row", "size", "names", "d", "a", "part"] ["row", "size", "names"] (defScope s_row_words) := ⟨rfl, rfl, rfl, by decide +kernel, rfl, by decide +kernel, by decide +kernel⟩
theorem ok_rowwS (F : FnP K "row_words" s_row_words dvs f fd) (T : CT K CR RFN) (k_sum_of : KnSum P w K mg base) (g_tuple : mg "tuple" = none) (g_WORD_MOST : ∃ t, mg "WORD_MOST" = some (.int 65535 t)) : FnOk P w K mg base (L2.CX P w) 7 f fd ["row", "size", "names"] (spRowW K CR wSim okSim) := by
  obtain ⟨_, g_WORD_MOST⟩ := g_WORD_MOST
  refine F.ok sc_row_words (fun vs H Q E h => ?_) (fun cdv A outer s H vs Q E hr h => ?_)
  · obtain ⟨a, d, r, n, nm, rfl, _⟩ := h
    rfl
  · obtain ⟨a, d, r, n, nm, rfl, hA, hok, hfm, hsm, hN, hB, _, _, _, q⟩ := h
    refine ⟨_, (pss_one (ps_match (pe_fld (pv 0) rfl) (pcs_cons sc_row_words.nd (pp_or (ppf_cons (pp_val pe_str) (ppf_cons (pp_val pe_str) ppf_nil))) (pss_one (ps_ret (pe_tup pa_nil)))
      (pcs_cons sc_row_words.nd (pp_val pe_str) (pss_one (ps_ret (pe_callTy call_tuple_of rfl g_tuple (by decide +kernel) (pa_cons (pe_lcX (E := E) rfl rfl (takes_of rfl rfl rfl rfl) (own := [("part", 5)]) (g := gName 5) rfl sc_row_words.nd (pi_list (pe_fld (pv 0) rfl)) (blkOk_by (own := [("part", 5)]) (N := N_row_words) (sc := defScope s_row_words) (by decide +kernel)) (fun _ _ _ _ _ => (pg_name (i := 5) sc_row_words.nd rfl (Or.inl rfl))) (fun _ _ _ _ _ => pts_nil) (fun _ _ _ _ _ => (pe_op op_and (pk k_sum_of hr (by decide) rfl (by exact fun ps ρ G' b u t J c => ⟨ps, ρ, G', b, Inv.unwish J, c⟩) (pa_cons (show PE _ _ (tFld K _ "number") from pe_fld (pv 0) rfl) (pa_cons (pv 5) (pa_cons pe_str (pa_cons (pv 2) pa_nil))))) (pe_glob (v := .int 65535) rfl g_WORD_MOST ⟨_, rfl⟩)))) pa_nil))))
      (pcs_cons sc_row_words.nd (pp_val pe_str) (pss_one (ps_ret (pe_op op_repA pe_never (pv 1))))
      (pcs_cons sc_row_words.nd (pp_val pe_str) (pss_one (ps_ret pe_never))
      (pcs_cons sc_row_words.nd (pp_val pe_str) (pss_cons (ps_asg (pe_fld (pv 0) rfl) (pg_lst rfl (pgs_cons (pg_name (i := 3) sc_row_words.nd rfl (Or.inl rfl)) (pgs_cons (pg_name (i := 4) sc_row_words.nd rfl (Or.inl rfl)) pgs_nil))))
      (pss_one (ps_ret pe_never)))
      (pcs_cons sc_row_words.nd pp_wild (pss_one (ps_ret pe_never))
      pcs_nil)))))))), ?_⟩
    obtain ⟨dx, tl, pl, h1, h2, h3⟩ := hA
    have mask : ∀ i : Int, Builtin.bitAnd i 65535 = i % 65536 := fun i => PySem.W.kbt_mask i 16
    have lv : (vTx r.parts).length = r.parts.length := by unfold vTx; rw [List.length_map]
    refine ⟨_, rfl, a, CR, dx, _, _, rfl, h1, T.cl, T.n _ m_word, rf_word _ _ _ _ _ _, ?_⟩
    unfold wSim at q
    by_cases c1 : wS r = "" ∨ wS r = ".let"
    · rw [if_neg (fun z => by rw [z] at c1; revert c1; decide +kernel)] at q
      refine cs_yes (x := []) ?_ ⟨line5 (by simp), fun U hU => q U _ (Same.add hU) (SqT.of upd_same)⟩
      by_cases c2 : wS r = ""
      · exact pev_or (pev_first (r := none) (pev_str_yes c2) _)
      · exact pev_or (pev_next (pev_str c2) (pev_first (r := none) (pev_str_yes (c1.resolve_left c2)) _))
    refine cs_no (pev_orN (pev_next (pev_str fun z => c1 (.inl z)) (pev_next (pev_str fun z => c1 (.inr z)) fun k q => q))) ?_
    have c2 : wS r = ".word" := by
      rcases hsm with h | h | h
      · exact absurd (.inl h) c1
      · exact absurd (.inr h) c1
      · exact h
    rw [if_pos c2] at q
    refine cs_yes (pev_str_yes c2) ?_
    refine ⟨_, rfl, a, CR, dx, _, _, rfl, h1, T.cl, T.n _ m_parts, rf_parts _ _ _ _ _ _, pl, rfl, ⟨_, SqL.of h3⟩, fun Z hZ => lc_list (K := K) (a := pl) (xs := vTx r.parts) (fun i G => ∃ is : List Int, Same H G ∧ G Z = some (.lst (is.map V.int)) ∧ is.length = i ∧ sumsW nm r.parts = (match sumsW nm (r.parts.drop i) with
      | .bad y => .bad y
      | .ok js => .ok (is ++ js))) ⟨[], Same.add hZ, upd_same, rfl, by rw [List.drop_zero]; cases sumsW nm r.parts <;> rfl⟩ (fun _ _ _ ⟨_, k, _⟩ => SqL.of (k _ _ h3)) ?_ ?_⟩
    · rintro i y G hy ⟨is, s1, hZ1, hil, hex⟩
      have hy' : (r.parts.map fun t => V.str (mk t))[i]? = some y := hy
      rw [List.getElem?_map] at hy'
      obtain ⟨p, hp, rfl⟩ := Option.map_eq_some_iff.mp hy'
      have hi := (List.getElem?_eq_some_iff.mp hp).1
      obtain ⟨p1, p2⟩ := hok.1.1 p (List.mem_of_getElem? hp)
      have hdr : r.parts.drop i = p :: r.parts.drop (i + 1) := by
        rw [List.drop_eq_getElem_cons hi]
        rw [List.getElem?_eq_getElem hi] at hp
        rw [Option.some.inj hp]
      rw [hdr, sumsW] at hex
      refine ⟨rfl, _, rfl, a, CR, dx, _, _, rfl, s1 _ _ h1, T.cl, T.n _ m_number, rf_number _ _ _ _ _ _, _, rfl, _, rfl, r.number, p, "short", -32768, 65535, d, nm, rfl, hok.2.2, p1, p2, by decide +kernel, hN.same s1, hB, ?_⟩
      cases hs : sumT nm p (-32768) 65535 with
      | bad y =>
        rw [hs] at hex
        rw [hex] at q
        exact fun G2 s2 => q _ (Same.trans s1 s2)
      | ok v =>
        rw [hs] at hex
        refine fun G2 s2 => ⟨_, _, rfl, rfl, _, s2 _ _ hZ1, lineT (by rw [List.length_map]; have := hok.1.2; omega), is ++ [v % 65536], Same.mut (Same.trans s1 s2) hZ, ?_, by rw [List.length_append, hil]; rfl, ?_⟩
        · rw [upd_same, List.map_append, ← mask]
          rfl
        · rw [hex]
          cases sumsW nm (r.parts.drop (i + 1)) with
          | bad y => rfl
          | ok js => exact congrArg Rs.ok (by rw [List.append_assoc]; rfl)
    · rintro G ⟨is, s1, hZ1, hil, hex⟩
      rw [lv, List.drop_length, sumsW] at hex
      dsimp only at hex
      rw [List.append_nil] at hex
      rw [hex] at q
      exact ⟨Z, _, rfl, .inl ⟨SqL.of hZ1, fun U hU => q U _ (Same.trans s1 (Same.add hU)) (SqT.of upd_same)⟩⟩
abbrev KnRowW (P : Program) (w : World) (K : PySem.W.Frag) (mg : Str → Option Value) (base : Heap) (CR : Addr) (W : WFn) (OK : Rw → Prop) : Prop := Kn P w K mg base (L2.CX P w) 7 "row_words" ["row", "size", "names"] [] (spRowW K CR W OK)
end
end Bm
set_option maxHeartbeats 1000000
/-! a list grows by a tuple's items -/
namespace Bm
open PySem PySem.Spec PyProof.Rows L2
theorem ext_tup (l : Addr) (xs : Array Value) (n : Nat) (c : Addr) (dd : Option Addr) (sl : Array (Option Value)) (ys : Array Value) (m : Nat) (h0 : ¬(!xs.isEmpty && Builtin.List.listTooLong (xs.size + ys.size)) = true) (h1 : xs.size ≤ sizeLine) (h2 : xs.size + ys.size ≤ sizeLine + 1) :
    Meets (Builtin.«list.extend» ⟨[.ref l, .ref c], []⟩) (fun _ R s => s.heap.get? l = some { cls := .type "list", data := .seq xs n } ∧ s.heap.get? c = some { cls := .type "tuple", dict := dd, data := .seq ys m, slots := sl } ∧
      R (.ok (.ret Value.none)) { s with heap := s.heap.update l (Obj.mapSeq fun x => x ++ ys), toks := s.toks }) :=
  .of_wp fun P W A R s w => by
    obtain ⟨hp, gs, dr, tk, os⟩ := s
    obtain ⟨gl, gc, w⟩ := w
    have i1 := AutoSeq1.idx_int
    have i2 := AutoSeq1.sub_tuple_tuple
    have i3 := AutoSeq1.sub_list_list
    have i4 := AutoSeq1.sub_tuple_list
    have i5 := AutoSeq1.sub_list_tuple
    have z : (xs ++ ys).size ≤ sizeLine + 1 := by rw [Array.size_append]; exact h2
    wp_walk using (wpAny_updateSeq gl rfl (hz := h1) (_hz' := z)), wpAny_loadPart' gl, wpAny_loadPart' gc
    exact ⟨_, rfl, w⟩
/-- l.extend(t), t a tuple -/
def rExtT (K : PySem.W.Frag) : V → List V → Hp → VK → Prop := fun x vs H Q => ∃ l b xs zs, x = .ref l ∧ vs = [.ref b] ∧ H l = some (.lst xs) ∧ SqT K H b zs ∧ xs.length + zs.length ≤ 100000 ∧ Q .non (upd H l (.lst (xs ++ zs)))
theorem mt_extT {X : Cx} : MtR X "list.extend" (rExtT X.K) := by
  intro pins s σ H x vs v us Q I rx rv w
  obtain ⟨l, b, xs, zs, rfl, rfl, gl, gt, len, q⟩ := w
  cases rx
  obtain ⟨u, rfl, ru⟩ := rv.one
  cases ru
  obtain ⟨z, its, n, r, hl, e⟩ := I.lstM gl
  obtain ⟨jts, r2, ⟨⟨cl, dd, dat, sl⟩, g2, g3, m, g4⟩, hz2⟩ := I.tuple gt
  simp only at g3 g4
  subst g3 g4
  have hs : (100000 : Nat) ≤ sizeLine := by decide
  have hl2 := r2.length
  have sz : its.toArray.size + jts.toArray.size ≤ sizeLine := by rw [List.size_toArray, List.size_toArray]; omega
  have nl : ¬ (!its.toArray.isEmpty && Builtin.List.listTooLong (its.toArray.size + jts.toArray.size)) = true := by
    rw [notLongL sz, Bool.and_false]
    exact Bool.false_ne_true
  refine call_meets F.slot_list_extend ⟨_, e, rfl⟩ F.entry_list_extend (F.args_list_extend_2 _ _) (ext_tup l its.toArray n b dd sl jts.toArray m nl (by rw [List.size_toArray]; omega) (by omega)) ⟨e, g2, ?_⟩
  refine ⟨.non, _, I.lset (its' := its ++ jts) gl e (by simp) (r.append r2) ?_, rfl, q⟩
  rw [List.length_append]
  omega
end Bm
set_option maxHeartbeats 1000000
namespace Bm
open PySem PySem.Spec PyProof.Rows L2
section
variable {X : Cx}
abbrev BlkX (X : Cx) (sc : Scope) (s : Shared) (H : Hp) (C : Addr) (cl : List (Str × Addr)) (fp : List Addr) : Cx := X.blk s H sc (compEnvC sc cl C X.env) fp
/-- y = {k: v for ..}, y a local name -/
theorem ps_setDc {i : Nat} {y : Str} {py : Pos} {ka va tgt src : Expr} {cs : List Expr} {sc : Scope} {own : List (Str × Nat)} {p sp : Pos} {wi : TI} {g : TG} {tt : TT} {tk tv : TE} (calm : X.calm = true) (nd : X.N.Nodup) (at_ : X.N[i]? = some y) (loc : X.env.scope.names.lookup y = some .local)
    (sw : swapsWith (.DictComp ka va [⟨tgt, src, cs, 0⟩] sc p) (some (.Name y py)) sp.line X.env = pure true) (pi : PI X tgt src wi) (blk : BlkOk X.N X.env.scope sc own)
    (pg : ∀ s H C cl fp, PG (BlkX X sc s H C cl fp) tgt g) (pt : ∀ s H C cl fp, PTs (BlkX X sc s H C cl fp) cs tt) (pk : ∀ s H C cl fp, PE (BlkX X sc s H C cl fp) ka tk) (pv : ∀ s H C cl fp, PE (BlkX X sc s H C cl fp) va tv)
    (fo : ∀ x, foldedSetIterable src X.env x = pure x := by intro _; rfl) :
    PS X (.Assign [.Name y py] (.DictComp ka va [⟨tgt, src, cs, 0⟩] sc p) sp) (tAsg (tDc wi g tt tk tv (own.map fun z => z.2)) (gName i)) := by
  constructor
  intro pins s σ H D I h
  rw [exec_Assign_Name_used y py _ sp sw]
  have h0 : tDc wi g tt tk tv (own.map fun z => z.2) σ H (fun x G => gName i x σ G D.nx) := h
  have core := dc_core (pos := p) (pos' := firstIterPos [⟨tgt, src, cs, 0⟩] p) (use := some (assign (.Name y py) X.env)) (Qf := fun _ s2 => SP X pins D .next s2) calm nd I pi blk pg pt pk pv fo h0 ?post
  · exact wpAny_bind (wpAny_standAt (wpAny_bind (show wpAny _ X.A (do let _ ← comprehension (.DictComp ka va [⟨tgt, src, cs, 0⟩] sc p) sc X.env (firstIterPos [⟨tgt, src, cs, 0⟩] p) newDict false (eval src X.env) (some (assign (.Name y py) X.env))) _ _ s from
      wpAny_bind (thn core fun _ s2 q => wpAny_pure (wpAny_pure q)))))
  · intro L C s2 m G J q hn f
    obtain ⟨f0, f1, f2, f3, f4, f5⟩ := f
    show wpAny _ _ (assign (.Name y py) X.env (.ref L)) _ _ _
    refine wpAny_assign_Name (store_ok2 (v := V.ref L) J nd at_ (.inl loc) rfl (fun s3 J3 ex => ?_) (.inr loc))
    obtain ⟨a, sb, ha⟩ := ex
    have nC : C ≠ a := ha.elim (fun z => z ▸ f1) (fun z e => f4 y a z e.symm)
    exact ⟨m, hn.sameBut sb nC, fun h4 sb4 => ⟨_, G, J3.turned (t' := s3.toks) (fun b o nb e => (sb4.2 b nb).trans e) f0 f1 f3 f4 f5, q⟩⟩
theorem sw_trueD {ka va : Expr} {gs : List Comprehension} {sc : Scope} {p py : Pos} {y : Str} {l : Nat} {env : Env} (hk : env.scope.kind = .function) (hy : env.scope.names.lookup y = some .local) (hl : (py.line == p.line) = true)
    (ha : (sc.names.any fun (n, k) => n == y && (k == .local || k == .cell)) = false) : swapsWith (.DictComp ka va gs sc p) (some (.Name y py)) l env = pure true := by
  have e1 : env.kindOf y = some .local := hy
  unfold swapsWith
  have e3 : env.blockKind = ScopeKind.function := (if_neg (by rw [hk]; decide)).trans hk
  have e4 : (Expr.DictComp ka va gs sc p).pos = p := rfl
  simp only [e1, ha]
  rw [e3, e4, hl]
  rfl
end
section
variable {J : It} {n : Nat} {G : Hp → Prop} {Y : Nat → Hp → V → Hp → Prop}
/-- a dict comprehension over what is walked -/
theorem dc_it (wk : Walk J n G Y) {g : TG} {tt : TT} {tk tv : TE} {vs : List Nat} {σ : L2.St} {H1 : Hp} {D : Addr} {Qd : Hp → Prop} (Pv : Nat → Hp → Prop) (h0 : Pv 0 (upd H1 D (.dK []))) (hG : ∀ i H, i ≤ n → Pv i H → G H)
    (hs : ∀ i x H H', i < n → Pv i H → Y i H x H' → g x (wipe σ vs) H' fun σ2 H2 => wipe σ2 vs = wipe σ vs ∧ tt σ2 H2 fun b H3 =>
      if b = true then tk σ2 H3 fun y H4 => tv σ2 H4 fun z H5 => ∃ kvs k, y = kV k ∧ H5 D = some (.dK kvs) ∧ kvs.length < sizeLine ∧ Pv (i + 1) (upd H5 D (.dK (putK kvs k z))) else Pv (i + 1) H3) (hd : ∀ H, Pv n H → Qd H) :
    ∃ W : Nat → Nat → Hp → Prop, (∃ m, W 0 m (upd H1 D (.dK []))) ∧ ∀ i m H, W i m H →
      (J.stop i H ∧ Qd H) ∨ (J.go i H ∧ ∃ Nx : Hp → Prop, (∀ H', Nx H' → ∃ m', m' < m ∧ W (i + 1) m' H') ∧ ∀ x H', J.yld i H x H' → g x (wipe σ vs) H' fun σ2 H2 => wipe σ2 vs = wipe σ vs ∧ tt σ2 H2 fun b H3 =>
        if b = true then tk σ2 H3 fun y H4 => tv σ2 H4 fun z H5 => ∃ kvs k, y = kV k ∧ H5 D = some (.dK kvs) ∧ kvs.length < sizeLine ∧ Nx (upd H5 D (.dK (putK kvs k z))) else Nx H3) := by
  refine ⟨fun i m H => i ≤ n ∧ m = n - i ∧ Pv i H, ⟨n, Nat.zero_le _, rfl, h0⟩, fun i m H w => ?_⟩
  obtain ⟨hi, hm, hp⟩ := w
  have hG' := hG i H hi hp
  cases Nat.lt_or_eq_of_le hi with
  | inl c => exact .inr ⟨wk.goes i H c hG', Pv (i + 1), fun H' z => ⟨n - (i + 1), by omega, c, rfl, z⟩, fun x H' y => hs i x H H' c hp (wk.yields i H x H' c hG' y)⟩
  | inr c =>
    rw [c] at hp ⊢
    exact .inl ⟨wk.stops H (hG n H (Nat.le_refl _) hp), hd H hp⟩
end
end Bm
set_option maxHeartbeats 1000000
namespace Bm
open PySem PySem.Spec PyProof.Rows L2
def setN (nm : Tx → Option Int) (p : Tx) (v : Int) : Tx → Option Int := fun q => if q = p then some v else nm q
noncomputable def runG (W : WFn) (sz : List Nat) : (Tx → Option Int) → Nat → List Int → List Rw → RsN (List Int)
  | _, _, im, [] => .ok im
  | nm, i, im, r :: rs => match W (setN nm HERE (lay sz i)) r (sz.getD i 0) with
    | .bad y => .bad r.number y
    | .ok ws => if wS r = ".let" then (match sumT (setN nm HERE (lay sz i)) (r.parts.getD 1 []) (-1000000000) 1000000000 with
        | .bad y => .bad r.number y
        | .ok v => runG W sz (setN (setN nm HERE (lay sz i)) (r.parts.getD 0 []) v) (i + 1) (im ++ ws) rs)
      else runG W sz (setN nm HERE (lay sz i)) (i + 1) (im ++ ws) rs
def labs (ns : List (Tx × Nat)) (sz : List Nat) : List (Tx × Nat) := ns.map fun x => (x.1, lay sz x.2)
def nm0 (ls : List (Tx × Nat)) : Tx → Option Int := fun p => (ls.lookup p).map fun (n : Nat) => (n : Int)
noncomputable def jnR (W : WFn) (rs : List Rw) : RsN (List Int × List (Tx × Nat)) := match numsG 0 [] [] rs with
  | .bad n y => .bad n y
  | .ok ns => match goalsG ns [] rs with
    | .bad n y => .bad n y
    | .ok gs => match longG (wEndS gs (rs.map leastT)) 0 rs with
      | some n => .bad n "long"
      | none => match runG W (wEndS gs (rs.map leastT)) (nm0 (labs ns (wEndS gs (rs.map leastT)))) 0 [] rs with
        | .bad n y => .bad n y
        | .ok im => .ok (im, labs ns (wEndS gs (rs.map leastT)))
noncomputable def jnT (W : WFn) (l : Tx) : RsN (List Int × List (Tx × Nat)) := match exG 0 [] (rowsT l) with
  | .bad n y => .bad n y
  | .ok rs => jnR W rs
theorem exG_mem : ∀ {ts : List Tx} {n : Nat} {acc rs : List Rw}, exG n acc ts = .ok rs → acc.length ≤ 300 → rs.length ≤ 300 ∧ ∀ r ∈ rs, r ∈ acc ∨ ∃ k t, t ∈ ts ∧ k < n + ts.length ∧ r = rowT k t
  | [], n, acc, rs, h, ha => by
    rw [exG] at h
    cases h
    exact ⟨ha, fun r hr => .inl hr⟩
  | t :: ts, n, acc, rs, h, ha => by
    have key : ∀ {rs}, exG (n + 1) (acc ++ [rowT n t]) ts = .ok rs → ¬ acc.length = 300 → rs.length ≤ 300 ∧ ∀ r ∈ rs, r ∈ acc ∨ ∃ k u, u ∈ t :: ts ∧ k < n + (t :: ts).length ∧ r = rowT k u := fun {rs} h c => by
      obtain ⟨h1, h2⟩ := exG_mem h (by rw [List.length_append]; show acc.length + 1 ≤ 300; omega)
      refine ⟨h1, fun r hr => ?_⟩
      rcases h2 r hr with h | ⟨k, u, hu, hk, e⟩
      · rcases List.mem_append.mp h with h | h
        · exact .inl h
        · exact .inr ⟨n, t, List.mem_cons_self, by rw [List.length_cons]; omega, List.mem_singleton.mp h⟩
      · exact .inr ⟨k, u, List.mem_cons_of_mem _ hu, by rw [List.length_cons]; omega, e⟩
    rw [exG] at h
    split at h
    · split at h
      · cases h
      · split at h
        · cases h
        · exact key h ‹_›
    · split at h
      · cases h
      · exact key h ‹_›
theorem numsG_ok : ∀ {rs : List Rw} {i : Nat} {ns ns' : List (Tx × Nat)} {kn : List Tx}, numsG i ns kn rs = .ok ns' → (∀ x ∈ ns, x.1 ∈ kn ∧ x.2 < i) → (ns.map (·.1)).Nodup → (∀ r ∈ rs, isFormT r = true) ∧ (∀ x ∈ ns', x.2 < i + rs.length) ∧ (ns'.map (·.1)).Nodup ∧ ns'.length ≤ ns.length + rs.length
  | [], i, ns, ns', kn, h, hb, hn => by
    rw [numsG] at h
    cases h
    exact ⟨fun r hr => (nomatch hr), fun x hx => (hb x hx).2, hn, Nat.le_refl _⟩
  | r :: rs, i, ns, ns', kn, h, hb, hn => by
    rw [numsG] at h
    split at h
    · cases h
    · rename_i c1
      split at h
      · cases h
      · rename_i c2
        have c2 : twiceB kn (ownT r) = false := by simpa using c2
        have c1 : isFormT r = true := by simpa using c1
        have fin : ∀ {ns2}, numsG (i + 1) ns2 (kn ++ ownT r) rs = .ok ns' → (∀ x ∈ ns2, x.1 ∈ kn ++ ownT r ∧ x.2 < i + 1) → (ns2.map (·.1)).Nodup → ns2.length ≤ ns.length + 1 → _ := fun {ns2} h b n l => by
          obtain ⟨h1, h2, h3, h4⟩ := numsG_ok h b n
          refine (⟨fun q hq => ?_, fun x hx => ?_, h3, ?_⟩ : (∀ q ∈ r :: rs, isFormT q = true) ∧ (∀ x ∈ ns', x.2 < i + (r :: rs).length) ∧ (ns'.map (·.1)).Nodup ∧ ns'.length ≤ ns.length + (r :: rs).length)
          · rcases List.mem_cons.mp hq with rfl | hq
            · exact c1
            · exact h1 q hq
          · have := h2 x hx
            rw [List.length_cons]
            omega
          · rw [List.length_cons]
            omega
        cases hl : r.label with
        | none =>
          rw [hl] at h
          exact fin h (fun x hx => ⟨List.mem_append_left _ (hb x hx).1, Nat.lt_succ_of_lt (hb x hx).2⟩) hn (Nat.le_succ _)
        | some l =>
          rw [hl] at h
          have nl := twice_label c2 hl
          refine fin h (fun x hx => ?_) ?_ (by rw [List.length_append]; exact Nat.le_refl _)
          · rcases List.mem_append.mp hx with hx | hx
            · exact ⟨List.mem_append_left _ (hb x hx).1, Nat.lt_succ_of_lt (hb x hx).2⟩
            · rw [List.mem_singleton.mp hx]
              refine ⟨List.mem_append_right _ ?_, Nat.lt_succ_self i⟩
              unfold ownT
              rw [hl]
              exact List.mem_append_left _ (List.mem_singleton.mpr rfl)
          · rw [List.map_append, List.nodup_append]
            refine ⟨hn, by simp, fun a ha b hb2 e => ?_⟩
            obtain ⟨x, hx, rfl⟩ := List.mem_map.mp ha
            have hb3 : b = l := by simpa using hb2
            exact nl (by rw [← hb3, ← e]; exact (hb x hx).1)
theorem goalsG_len {ns : List (Tx × Nat)} : ∀ {rs : List Rw} {acc gs : List (Option Nat)}, goalsG ns acc rs = .ok gs → gs.length = acc.length + rs.length
  | [], acc, gs, h => by
    rw [goalsG] at h
    cases h
    rfl
  | r :: rs, acc, gs, h => by
    rw [goalsG] at h
    split at h
    · have := goalsG_len h
      rw [List.length_append] at this
      rw [List.length_cons]
      simp only [List.length_cons, List.length_nil] at this
      omega
    · split at h
      · cases h
      · have := goalsG_len h
        rw [List.length_append] at this
        rw [List.length_cons]
        simp only [List.length_cons, List.length_nil] at this
        omega
theorem longG_none {sz : List Nat} : ∀ {rs : List Rw} {i : Nat}, longG sz i rs = none → ∀ j, j < rs.length → lay sz (i + j + 1) ≤ 200
  | [], i, h, j, hj => absurd hj (Nat.not_lt_zero _)
  | r :: rs, i, h, j, hj => by
    rw [longG] at h
    split at h
    · cases h
    · rename_i c
      cases j with
      | zero => exact Nat.le_of_not_lt c
      | succ j =>
        have := longG_none h j (Nat.lt_of_succ_lt_succ hj)
        rw [show i + (j + 1) + 1 = i + 1 + j + 1 by omega]
        exact this
theorem wEndS_len {gs : List (Option Nat)} {s0 : List Nat} (h : s0.length = gs.length) : (wEndS gs s0).length = gs.length := wM_len h _
theorem lay_zero (sz : List Nat) : lay sz 0 = 0 := rfl
theorem Bil.small {n : Nat} (h : n ≤ 200) : Bil (n : Nat) := ⟨by omega, by omega⟩
/-- the names of labels, as they stand in a dict -/
theorem putK_labs {ns : List (Tx × Nat)} (hn : (ns.map (·.1)).Nodup) (sz : List Nat) {i : Nat} {x : Tx × Nat} (hx : ns[i]? = some x) : putK (vNm (labs (ns.take i) sz)) (.inr (mk x.1)) (.int (lay sz x.2 : Nat)) = vNm (labs (ns.take (i + 1)) sz) := by
  have hi := (List.getElem?_eq_some_iff.mp hx).1
  have no : x.1 ∉ (labs (ns.take i) sz).map (·.1) := fun hm => by
    have e : (labs (ns.take i) sz).map (·.1) = (ns.map (·.1)).take i := by
      unfold labs
      rw [List.map_map, ← List.map_take]
      rfl
    rw [e] at hm
    have hd : (ns.map (·.1)).take i ++ (ns.map (·.1)).drop i = ns.map (·.1) := List.take_append_drop ..
    rw [← hd, List.nodup_append] at hn
    refine hn.2.2 x.1 hm x.1 ?_ rfl
    rw [List.drop_eq_getElem_cons (by rw [List.length_map]; exact hi), List.getElem_map]
    rw [List.getElem?_eq_getElem hi] at hx
    rw [Option.some.inj hx]
    exact List.mem_cons_self
  rw [putK_new _ (by rw [vNm_at, look_none no]; rfl), takeS hx]
  unfold vNm labs
  rw [List.map_append, List.map_append]
  rfl
theorem nm0_bil {ls : List (Tx × Nat)} (h : ∀ x ∈ ls, x.2 ≤ 200) : ∀ p i, nm0 ls p = some i → Bil i := fun p i e => by
  obtain ⟨n, hn, rfl⟩ := Option.map_eq_some_iff.mp e
  exact Bil.small (h _ (lookup_memT hn))
theorem setN_bil {nm : Tx → Option Int} {p : Tx} {v : Int} (h : ∀ p i, nm p = some i → Bil i) (hv : Bil v) : ∀ q i, setN nm p v q = some i → Bil i := fun q i e => by
  unfold setN at e
  split at e
  · rw [← Option.some.inj e]
    exact hv
  · exact h q i e
theorem row_ok {t : Tx} (h : ClT t) (hl : t.length ≤ 280) {n : Nat} (hn : n ≤ 100000) : RwL (rowT n t) ∧ (rowT n t).parts.length ≤ 281 := by
  have cb := h.sub (body_sub t)
  have lb := body_len t
  have wc := wr_cl cb
  have wl := wr_len (bodyT t)
  have pl := parts_len (wordRest (bodyT t)).2
  have e : (rowT n t).parts.length = (partsT (wordRest (bodyT t)).2).length := List.length_map ..
  have pn : (rowT n t).parts.length ≤ 281 := by omega
  refine ⟨⟨⟨fun p hp => ?_, by omega⟩, label_ok h (by omega) n, hn⟩, pn⟩
  obtain ⟨q, hq, rfl⟩ := List.mem_map.mp (show p ∈ (partsT (wordRest (bodyT t)).2).map lowd from hp)
  obtain ⟨q1, q2⟩ := parts_cl wc.2 q hq
  exact ⟨lowd_cl q1, by rw [lowd_len]; omega⟩
theorem two_of_len {α : Type} : ∀ {l : List α}, l.length = 2 → ∃ p q, l = [p, q]
  | [p, q], _ => ⟨p, q, rfl⟩
  | [], h => by cases h
  | [_], h => by cases h
  | _ :: _ :: _ :: l, h => by simp only [List.length_cons] at h; omega
theorem form_let {r : Rw} (h : isFormT r = true) (g : wS r = ".let") : ∃ p q, r.parts = [p, q] := by
  unfold isFormT at h
  have k3 : kindsS ".let" = some ([("name" : Str), "any"]) := by decide +kernel
  rw [g, k3, if_neg (by decide +kernel), if_neg (by decide +kernel)] at h
  dsimp only at h
  split at h
  · rename_i c
    rcases c with c | ⟨_, c⟩
    · exact two_of_len c.symm
    · exact absurd c (by decide +kernel)
  · cases h
theorem here_mk : ("here" : Str) = mk HERE := by decide +kernel
theorem rows_len (l : Tx) : (rowsT l).length ≤ l.length + 1 := by
  unfold rowsT
  rw [List.length_map]
  exact Nat.le_trans (butLast_len _) (splitT_len 10 l)
theorem exG_lab : ∀ {ts : List Tx} {n : Nat} {acc rs : List Rw}, exG n acc ts = .ok rs → (∀ r ∈ acc, ∀ l, r.label = some l → isNm l = true) → ∀ r ∈ rs, ∀ l, r.label = some l → isNm l = true
  | [], n, acc, rs, h, ha => by
    rw [exG] at h
    cases h
    exact ha
  | t :: ts, n, acc, rs, h, ha => by
    have put : (∀ l, (rowT n t).label = some l → isNm l = true) → ∀ r ∈ acc ++ [rowT n t], ∀ l, r.label = some l → isNm l = true := fun hl r hr => by
      rcases List.mem_append.mp hr with h | h
      · exact ha r h
      · rw [List.mem_singleton.mp h]
        exact hl
    rw [exG] at h
    split at h
    · rename_i l e
      split at h
      · cases h
      · rename_i c
        split at h
        · cases h
        · exact exG_lab h (put fun l' e' => by rw [e] at e'; cases e'; simpa using c)
    · rename_i e
      split at h
      · cases h
      · exact exG_lab h (put fun l' e' => by rw [e] at e'; cases e')
theorem twiceB_no : ∀ {l kn : List Tx}, twiceB kn l = false → (∀ x ∈ l, x ∉ kn) ∧ l.Nodup
  | [], kn, _ => ⟨fun x hx => (nomatch hx), List.nodup_nil⟩
  | n :: l, kn, h => by
    rw [twiceB, Bool.or_eq_false_iff] at h
    obtain ⟨h1, h2⟩ := h
    obtain ⟨i1, i2⟩ := twiceB_no h2
    have h1 := of_decide_eq_false h1
    refine ⟨fun x hx => ?_, List.nodup_cons.mpr ⟨fun hm => i1 n hm (by simp), i2⟩⟩
    rcases List.mem_cons.mp hx with rfl | hx
    · exact h1
    · exact fun z => i1 x hx (List.mem_append_left _ z)
theorem numsG_names : ∀ {rs : List Rw} {i : Nat} {ns ns' : List (Tx × Nat)} {kn : List Tx}, numsG i ns kn rs = .ok ns' → (∀ x ∈ ns, x.1 ∈ kn) → (∀ x ∈ ns', x ∈ ns ∨ x.1 ∉ kn ∧ ∃ r ∈ rs, r.label = some x.1) ∧ ∀ r ∈ rs, wS r = ".let" → ∀ p0 ps, r.parts = p0 :: ps → ∀ x ∈ ns', x.1 ≠ p0
  | [], i, ns, ns', kn, h, hb => by
    rw [numsG] at h
    cases h
    exact ⟨fun x hx => .inl hx, fun r hr => (nomatch hr)⟩
  | r :: rs, i, ns, ns', kn, h, hb => by
    rw [numsG] at h
    split at h
    · cases h
    · rename_i c1
      split at h
      · cases h
      · rename_i c2
        obtain ⟨t1, t2⟩ := twiceB_no (Bool.not_eq_true _ ▸ c2)
        have own : ∀ l, r.label = some l → l ∈ ownT r := fun l e => by unfold ownT; rw [e]; simp
        obtain ⟨i1, i2⟩ := numsG_names h (fun x hx => by
          cases e : r.label with
          | none => rw [e] at hx; exact List.mem_append_left _ (hb x hx)
          | some l =>
            rw [e] at hx
            rcases List.mem_append.mp hx with h | h
            · exact List.mem_append_left _ (hb x h)
            · rw [List.mem_singleton.mp h]
              exact List.mem_append_right _ (own l e))
        have at_ : ∀ x ∈ ns', x ∈ ns ∨ (r.label = some x.1) ∨ x.1 ∉ kn ++ ownT r ∧ ∃ r' ∈ rs, r'.label = some x.1 := fun x hx => by
          rcases i1 x hx with h | ⟨h, r', hr', e'⟩
          · cases e : r.label with
            | none => rw [e] at h; exact .inl h
            | some l =>
              rw [e] at h
              rcases List.mem_append.mp h with h | h
              · exact .inl h
              · rw [List.mem_singleton.mp h]
                exact .inr (.inl rfl)
          · exact .inr (.inr ⟨h, r', hr', e'⟩)
        refine ⟨fun x hx => ?_, fun r' hr' hw p0 ps hp x hx => ?_⟩
        · rcases at_ x hx with h | h | ⟨h, r', hr', e'⟩
          · exact .inl h
          · exact .inr ⟨t1 _ (own _ h), r, List.mem_cons_self .., h⟩
          · exact .inr ⟨fun z => h (List.mem_append_left _ z), r', List.mem_cons_of_mem _ hr', e'⟩
        · rcases List.mem_cons.mp hr' with rfl | hr'
          · have hm : p0 ∈ ownT r' := by unfold ownT; rw [if_pos hw, hp]; simp
            rcases at_ x hx with h | h | ⟨h, _⟩
            · exact fun z => t1 _ hm (z ▸ hb x h)
            · intro z
              unfold ownT at t2
              rw [h, if_pos hw, hp, z] at t2
              simp at t2
            · exact fun z => h (List.mem_append_right _ (z ▸ hm))
          · exact i2 r' hr' hw p0 ps hp x hx
theorem goalsG_in {ns : List (Tx × Nat)} : ∀ {rs : List Rw} {acc gs : List (Option Nat)}, goalsG ns acc rs = .ok gs → ∀ r ∈ rs, ∀ p, goalT r = some p → ∃ n, (p, n) ∈ ns
  | [], acc, gs, _, r, hr => (nomatch hr)
  | r :: rs, acc, gs, h, r', hr' => by
    rw [goalsG] at h
    intro p hp
    split at h
    · rename_i e
      rcases List.mem_cons.mp hr' with rfl | hr'
      · rw [e] at hp; cases hp
      · exact goalsG_in h r' hr' p hp
    · rename_i q e
      split at h
      · cases h
      · rename_i n en
        rcases List.mem_cons.mp hr' with rfl | hr'
        · rw [e] at hp
          cases hp
          exact ⟨n, lookup_memT en⟩
        · exact goalsG_in h r' hr' p hp
theorem nm0_at {ls : List (Tx × Nat)} (hn : (ls.map (·.1)).Nodup) {x : Tx × Nat} (hx : x ∈ ls) : nm0 ls x.1 = some (x.2 : Int) := by
  have h : ls.lookup x.1 = some x.2 := by
    induction ls with
    | nil => cases hx
    | cons y ls ih =>
      rw [List.map_cons, List.nodup_cons] at hn
      rw [List.lookup_cons]
      rcases List.mem_cons.mp hx with rfl | hx
      · rw [beq_self_eq_true]
      · have hne : x.1 ≠ y.1 := fun z => hn.1 (by rw [← z]; exact List.mem_map_of_mem hx)
        rw [beq_eq_false_iff_ne.mpr hne]
        exact ih hn.2 hx
  unfold nm0
  rw [h]
  rfl
theorem setN_ne {nm : Tx → Option Int} {p q : Tx} {v : Int} (h : q ≠ p) : setN nm p v q = nm q := if_neg h
section
variable {P : Program} {w : World} {K : PySem.W.Frag} {mg : Str → Option Value} {base : Heap} {f CR : Addr} {fd : FuncData} {dvs : List V}
/-- texts that may be handed in: plain rows, short, no macros, all of a kind -/
def TxOk (OK : Rw → Prop) (l : Tx) : Prop := (∀ c ∈ l, c = 10 ∨ 32 ≤ c ∧ c < 127) ∧ l.length ≤ 50000 ∧ (∀ t ∈ rowsT l, ClT t ∧ t.length ≤ 280 ∧ ∀ n, OK (rowT n t)) ∧ NoMac (rowsT l)
def spJoined (K : PySem.W.Frag) (W : WFn) (OK : Rw → Prop) : Sp := fun vs H Q E => ∃ l : Tx, vs = [.str (mk l)] ∧ TxOk OK l ∧
  (∀ im ls, jnT W l = .ok (im, ls) → ∀ T U D H', Same H H' → SqT K H' T [.ref U, .ref D] → SqT K H' U (im.map V.int) → H D = none → H' D = some (.dK (vNm ls)) → Q (.ref T) H') ∧ (∀ n y, jnT W l = .bad n y → ∀ H', Same H H' → Rfs K E H' n y)
abbrev N_joined : List Str := ["text", "rows", "numbers", "sizes", "starts", "number", "labels", "names", "image", "row", "label"]
theorem sc_joined : FnScope ["text", "rows", "numbers", "sizes", "starts", "number", "labels", "names", "image", "row", "label"] ["text"] (defScope s_joined) := ⟨rfl, rfl, rfl, by decide +kernel, rfl, by decide +kernel, by decide +kernel⟩
theorem ok_joined {W : WFn} {OK : Rw → Prop} (F : FnP K "joined" s_joined dvs f fd) (T : CT K CR RFN) (hW : ∀ nm r n ws, W nm r n = .ok ws → ws.length ≤ r.parts.length + 50 ∨ ws.length ≤ n) (k_rows_of : KnRowsOf P w K mg base) (k_exchanged_rows : KnXr P w K mg base CR) (k_numbers_of_labels : Kn P w K mg base (L2.CX P w) 5 "numbers_of_labels" ["rows"] [] (spNums K CR)) (k_sizes_of : KnSizes P w K mg base CR)
    (k_starts_of : KnSpots P w K mg base) (k_check_length : KnLen P w K mg base CR) (k_row_words : KnRowW P w K mg base CR W OK) (k_sum_of : KnSum P w K mg base) (g_enumerate : mg "enumerate" = none) (g_dict : mg "dict" = none) (g_tuple : mg "tuple" = none) : FnOk P w K mg base (L2.CX P w) 8 f fd ["text"] (spJoined K W OK) := by
  refine F.ok sc_joined (fun vs H Q E h => ?_) (fun cdv A outer s H vs Q E hr h => ?_)
  · obtain ⟨l, rfl, _⟩ := h
    rfl
  · obtain ⟨l, rfl, hl, qy, qn⟩ := h
    refine ⟨_, (pss_cons (ps_set (i := 1) sc_joined.nd rfl (Or.inl rfl) (pk k_exchanged_rows hr (by decide) rfl passT (pa_cons (pk k_rows_of hr (by decide) rfl pass0 (pa_cons (pv 0) pa_nil)) pa_nil)))
      (pss_cons (ps_set (i := 2) sc_joined.nd rfl (Or.inl rfl) (pk k_numbers_of_labels hr (by decide) rfl passT (pa_cons (pv 1) pa_nil)))
      (pss_cons (ps_set (i := 3) sc_joined.nd rfl (Or.inl rfl) (pk k_sizes_of hr (by decide) rfl passT (pa_cons (pv 1) (pa_cons (pv 2) pa_nil))))
      (pss_cons (ps_set (i := 4) sc_joined.nd rfl (Or.inr rfl) (pk k_starts_of hr (by decide) rfl pass0 (pa_cons (pv 3) pa_nil)))
      (pss_cons (ps_expr (pk k_check_length hr (by decide) rfl passT (pa_cons (pv 1) (pa_cons (pv 4) pa_nil))))
      (pss_cons (ps_lock (ps_setDc (i := 6) (own := [("number", 5), ("label", 10)]) (g := gTup K 2 (gCons (gName 10) (gCons (gName 5) (gNil)))) rfl sc_joined.nd rfl rfl (sw_trueD rfl rfl rfl (by decide +kernel)) (pi_items (pv 2)) (blkOk_by (own := [("number", 5), ("label", 10)]) (N := N_joined) (sc := defScope s_joined) (by decide +kernel)) (fun _ _ _ _ _ => (pg_tup rfl (pgs_cons (pg_name (i := 10) sc_joined.nd rfl (Or.inl rfl)) (pgs_cons (pg_name (i := 5) sc_joined.nd rfl (Or.inl rfl)) pgs_nil)))) (fun _ _ _ _ _ => pts_nil) (fun _ _ _ _ _ => (pv 10)) (fun _ _ _ _ _ => (pe_ix (show IxR _ (rIxL K) from ix_list) (pv 4) (pv 5) (fun _ _ => rfl)))))
      (pss_cons (ps_set (i := 7) sc_joined.nd rfl (Or.inl rfl) (pe_callTy call_dcopy rfl g_dict (by decide +kernel) (pa_cons (pv 6) pa_nil)))
      (pss_cons (ps_set (i := 8) sc_joined.nd rfl (Or.inl rfl) (pe_lst pa_nil))
      (pss_cons (ps_for (passes_of rfl) rfl (pi_enum rfl g_enumerate (pa_cons (pv 1) pa_nil)) (pg_tup rfl (pgs_cons (pg_name (i := 5) sc_joined.nd rfl (Or.inl rfl)) (pgs_cons (pg_name (i := 9) sc_joined.nd rfl (Or.inl rfl)) pgs_nil)))
      (pss_cons (ps_asg (pe_ix ix_list (pv 4) (pv 5) (fun _ _ => rfl)) (pg_sub (pv 7) pe_str (set_dict (hu_of hr))))
      (pss_cons (ps_expr (pe_bm PySem.F.plainAttrs_list PySem.F.slot_list_extend PySem.F.type_list_extend mt_extT (pv 8) (pa_cons (pk k_row_words hr (by decide) rfl passT (pa_cons (pv 9) (pa_cons (pe_ix ix_list (pv 3) (pv 5) (fun _ _ => rfl)) (pa_cons (pv 7) pa_nil)))) pa_nil)))
      (pss_one (ps_if (pt_cmpR op_eq (pe_fld (pv 9) rfl) pe_str (nomark _)) (pss_one (ps_asg (pk k_sum_of hr (by decide) rfl passT (pa_cons (pe_fld (pv 9) rfl) (pa_cons (pe_ix ix_list (pe_fld (pv 9) rfl) pe_int (fun _ _ => rfl)) (pa_cons pe_str (pa_cons (pv 7) pa_nil))))) (pg_sub (pv 7) (pe_ix ix_list (pe_fld (pv 9) rfl) pe_int (fun _ _ => rfl)) (set_dict (hu_of hr))))) pss_nil)))))
      (pss_one (ps_ret (pe_tup (pa_cons (pe_callTy call_tuple_of rfl g_tuple (by decide +kernel) (pa_cons (pv 8) pa_nil)) (pa_cons (pv 6) pa_nil)))))))))))))), ?_⟩
    obtain ⟨l1, l2, l3, l4⟩ := hl
    have lr := rows_len l
    refine sqT ?_
    refine ⟨_, rfl, l, rfl, l1, l2, fun tl H1 ntl s1 htl => ⟨tl, rowsT l, rfl, htl, fun t ht => ⟨(l3 t ht).1, by have := (l3 t ht).2.1; omega⟩, l4, by omega, ?_, fun n y hb H2 s2 => qn n y (by unfold jnT; rw [hb]) H2 (Same.trans s1 s2)⟩⟩
    intro rs hrs rl H2 s2 hR
    have s02 := Same.trans s1 s2
    obtain ⟨hl300, hmem⟩ := exG_mem hrs (Nat.zero_le _)
    have hrow : ∀ r ∈ rs, RwL r ∧ r.parts.length ≤ 281 ∧ OK r := fun r hr => by
      rcases hmem r hr with h | ⟨k, t, ht, hk, rfl⟩
      · cases h
      · obtain ⟨t1, t2, t3⟩ := l3 t ht
        obtain ⟨a1, a2⟩ := row_ok t1 t2 (n := k) (by omega)
        exact ⟨a1, a2, t3 k⟩
    have ej : jnT W l = jnR W rs := by unfold jnT; rw [hrs]
    rw [ej] at qy qn
    unfold jnR at qy qn
    have hlab := exG_lab hrs (fun r hr => (nomatch hr))
    clear ej hmem hrs
    refine sqT ?_
    refine ⟨_, rfl, rl, rs, rfl, hR, fun r hr => (hrow r hr).1, hl300, ?_, fun n y hb H3 s3 => qn n y (by rw [hb]) H3 (Same.trans s02 s3)⟩
    intro ns hns D H3 s3 nD hD
    rw [hns] at qy qn
    dsimp only at qy qn
    obtain ⟨f1, f2, f3, f4⟩ := numsG_ok hns (fun x hx => (nomatch hx)) List.nodup_nil
    have f4 : ns.length ≤ rs.length := by simpa using f4
    obtain ⟨nn1, nn2⟩ := numsG_names hns (fun x hx => (nomatch hx))
    have hnsN : ∀ x ∈ ns, isNm x.1 = true := fun x hx => by
      rcases nn1 x hx with h | ⟨_, r', hr', e'⟩
      · cases h
      · exact hlab r' hr' _ e'
    have s03 := Same.trans s02 s3
    have hR3 := hR.same s3
    refine sqT ?_
    refine ⟨_, rfl, _, rfl, rl, D, rs, ns, rfl, hR3, fun r hr => ⟨(hrow r hr).1, f1 r hr⟩, hl300, hD, fun x hx => by have := f2 x hx; omega, ?_, fun n y hb H4 s4 => qn n y (by rw [hb]) H4 (Same.trans s03 s4)⟩
    intro gs hgs S H4 s4 nS hS
    rw [hgs] at qy qn
    dsimp only at qy qn
    have hgl := goalsG_len hgs
    have hgin := goalsG_in hgs
    rw [List.length_nil, Nat.zero_add] at hgl
    have hsl : (rs.map leastT).length = gs.length := by rw [List.length_map, hgl]
    have hzl := wEndS_len hsl
    rw [hgl] at hzl
    generalize wEndS gs (rs.map leastT) = sz at hS hzl qy qn
    clear hgs hgl hsl
    have s04 := Same.trans s03 s4
    refine sqT ?_
    refine ⟨_, rfl, S, sz, rfl, SqL.of hS, by omega, fun St H5 s5 nSt hSt => ?_⟩
    have s05 := Same.trans s04 s5
    have hR5 := (hR3.same s4).same s5
    have hS5 := s5 _ _ hS
    have hD5 := s5 _ _ (s4 _ _ hD)
    refine sqT ?_
    refine ⟨_, rfl, _, rfl, rl, St, rs, sz, rfl, hR5, fun r hr => (hrow r hr).1, hl300, hzl, hSt, ?_, fun n hb H6 s6 => qn n "long" (by rw [hb]) H6 (Same.trans s05 s6)⟩
    intro hlong H6 s6
    rw [hlong] at qy qn
    dsimp only at qy qn
    have hlay : ∀ i, i ≤ rs.length → lay sz i ≤ 200 := fun i hi => by
      cases i with
      | zero => exact Nat.zero_le _
      | succ j =>
        have := longG_none hlong j (by omega)
        rwa [Nat.zero_add] at this
    have s06 := Same.trans s05 s6
    have hR6 := hR5.same s6
    have hS6 := s6 _ _ hS5
    have hD6 := s6 _ _ hD5
    have hSt6 := s6 _ _ hSt
    clear hR hR3 hR5 hS hS5 hD hD5 hSt s1 s2 s3 s4 s5 s6 s02 s03 s04 s05 hlong
    have hsp : ∀ (i : Nat) (G : Hp), G St = some (.lst (vNat (spots sz))) → i ≤ rs.length → atI (vNat (spots sz)) ((i : Nat) : Int) = some (.int (lay sz i : Nat)) := fun i G _ hi => atI_nat (by
      unfold vNat spots
      rw [List.getElem?_map, List.getElem?_map, List.getElem?_range (by omega)]
      rfl)
    dsimp only [gName, List.set]
    refine sqT ?_
    refine ⟨D, .dK (vNm ns), hD6, True.intro, fun od => ?_⟩
    have nDSt : St ≠ D := fun z => by rw [z, hD6] at hSt6; cases hSt6
    have eD : upd H6 D (.frz od (.dK (vNm ns))) D = some (.frz od (.dK (vNm ns))) := upd_same
    have eo : ∀ b o, b ≠ D → H6 b = some o → upd H6 D (.frz od (.dK (vNm ns))) b = some o := fun b o hb h => by rw [upd_ne hb]; exact h
    generalize upd H6 D (.frz od (.dK (vNm ns))) = F6 at eD eo ⊢
    refine ⟨_, rfl, D, od, vNm ns, rfl, eD, fun Lb hLb => ?_⟩
    have nLD : Lb ≠ D := ne_of_free eD hLb
    have nL6 : H6 Lb = none := by
      cases e : H6 Lb with
      | none => rfl
      | some o => rw [eo Lb o nLD e] at hLb; cases hLb
    have lns : (vNm ns).length = ns.length := List.length_map ..
    refine dc_it walk_items (fun i G => G D = some (.frz od (.dK (vNm ns))) ∧ (∀ b o, b ≠ D → H6 b = some o → G b = some o) ∧ G Lb = some (.dK (vNm (labs (ns.take i) sz)))) ⟨by rw [upd_ne nLD.symm]; exact eD, fun b o hb h => ?_, upd_same⟩ (fun _ _ _ k => k.1) ?_ ?_
    · rw [upd_ne (fun z => by rw [z, nL6] at h; cases h)]
      exact eo b o hb h
    · rintro i v G G' hi ⟨k1, k2, k3⟩ ⟨U, y, z, rfl, hU, rfl, hy, hz⟩
      rw [lns] at hi
      obtain ⟨x, hx⟩ : ∃ x, ns[i]? = some x := ⟨ns[i], List.getElem?_eq_getElem hi⟩
      have hv : (vNm ns)[i]? = some ((.inr (mk x.1) : Key), V.int (x.2 : Nat)) := by unfold vNm; rw [List.getElem?_map, hx]; rfl
      have hy : (vNm ns)[i]?.map (fun kv => kV kv.1) = some y := hy
      have hz : (vNm ns)[i]?.map Prod.snd = some z := hz
      rw [hv] at hy hz
      obtain rfl : V.str (mk x.1) = y := Option.some.inj hy
      obtain rfl : V.int (x.2 : Nat) = z := Option.some.inj hz
      have sU : Same G (upd G U (.tup [V.str (mk x.1), V.int (x.2 : Nat)])) := Same.add hU
      have eU : (upd G U (.tup [V.str (mk x.1), V.int (x.2 : Nat)])) U = some (.tup [V.str (mk x.1), V.int (x.2 : Nat)]) := upd_same
      generalize upd G U (.tup [V.str (mk x.1), V.int (x.2 : Nat)]) = G3 at sU eU ⊢
      have nUL : Lb ≠ U := (ne_of_free k3 hU).symm
      have hxm := f2 x (List.mem_of_getElem? hx)
      have hSt3 := sU _ _ (k2 _ _ nDSt hSt6)
      refine ⟨U, _, rfl, SqT.of eU, rfl, _, _, rfl, _, _, rfl, rfl, rfl, ?_⟩
      refine ⟨_, rfl, _, rfl, _, rfl, St, _, _, _, rfl, rfl, SqL.of hSt3, hsp x.2 G3 hSt3 (by omega), _, .inr (mk x.1), rfl, sU _ _ k3, lineT (by unfold vNm labs; rw [List.length_map, List.length_map, List.length_take]; omega), ?_, fun b o hb h => ?_, ?_⟩
      · rw [upd_ne nLD.symm]
        exact sU _ _ k1
      · rw [upd_ne (fun z => by rw [z, nL6] at h; cases h)]
        exact sU _ _ (k2 b o hb h)
      · rw [upd_same, putK_labs f3 sz hx]
    · rintro G ⟨k1, k2, k3⟩
      rw [lns, List.take_length] at k3
      refine ⟨k1, ?_⟩
      have s7 : Same H6 (upd G D (.dK (vNm ns))) := fun b o h => by
        by_cases hb : b = D
        · rw [hb, upd_same, ← hD6, ← hb, h]
        · rw [upd_ne hb]
          exact k2 b o hb h
      have hLb7 : upd G D (.dK (vNm ns)) Lb = some (.dK (vNm (labs ns sz))) := by rw [upd_ne nLD]; exact k3
      generalize upd G D (.dK (vNm ns)) = H7 at s7 hLb7 ⊢
      clear k1 k2 k3 eD eo hLb
      have hR7 := hR6.same s7
      have hS7 := s7 _ _ hS6
      have hSt7 := s7 _ _ hSt6
      have s07 := Same.trans s06 s7
      dsimp only
      refine sqT ?_
      refine ⟨_, rfl, Lb, _, rfl, hLb7, fun Nm hNm => ?_⟩
      have nNm : H7 Nm = none := hNm
      have s8 : Same H7 (upd H7 Nm (.dK (vNm (labs ns sz)))) := Same.add hNm
      have e8 : (upd H7 Nm (.dK (vNm (labs ns sz)))) Nm = some (.dK (vNm (labs ns sz))) := upd_same
      generalize upd H7 Nm (.dK (vNm (labs ns sz))) = H8 at s8 e8 ⊢
      refine sqT ?_
      refine ⟨line5 (by simp), fun Im hIm => ?_⟩
      have nIm : H7 Im = none := free_of s8 hIm
      have nIN : Im ≠ Nm := ne_of_free e8 hIm
      have s9 : Same H8 (upd H8 Im (.lst [])) := Same.add hIm
      have e9 : (upd H8 Im (.lst [])) Im = some (.lst []) := upd_same
      generalize upd H8 Im (.lst []) = H9 at s9 e9 ⊢
      have s79 := Same.trans s8 s9
      have llab : (vNm (labs ns sz)).length = ns.length := by unfold vNm labs; rw [List.length_map, List.length_map]
      have labNd : ((labs ns sz).map (·.1)).Nodup := by
        have e : (labs ns sz).map (·.1) = ns.map (·.1) := by unfold labs; rw [List.map_map]; rfl
        rw [e]
        exact f3
      have lab200 : ∀ x ∈ labs ns sz, x.2 ≤ 200 := fun x hx => by
        obtain ⟨y, hy, rfl⟩ := List.mem_map.mp hx
        have := f2 y hy
        exact hlay y.2 (by omega)
      obtain ⟨xs, hL, hxl, hat⟩ := hR7
      have lx : (xs.map fun x => V.ref x.1).length = rs.length := by rw [List.length_map]; exact hxl
      dsimp only [gName, List.set]
      refine sqT (show tFor _ _ _ _ _ _ from ?_)
      refine ⟨_, rfl, rl, _, rfl, SqL.of (s79 _ _ hL), for_it (walk_enum (xs := xs.map fun x => V.ref x.1)) (fun i σ G => ∃ (nm : Tx → Option Int) (im : List Int) (kvs : List (Key × V)) (v5 v9 v10 : Option V), σ = [some (.str (mk l)), some (.ref rl), some (.ref D), some (.ref S), some (.ref St), v5, some (.ref Lb), some (.ref Nm), some (.ref Im), v9, v10] ∧ Same H7 G ∧ G Nm = some (.dK kvs) ∧ kvs.length ≤ 300 + 2 * i ∧ (∀ p : Tx, valV kvs (.inr (mk p)) = (nm p).map V.int) ∧ (∀ p j, nm p = some j → Bil j) ∧ (∀ x ∈ labs ns sz, nm x.1 = some ((x.2 : Nat) : Int)) ∧ G Im = some (.lst (im.map V.int)) ∧ im.length ≤ 331 * i + lay sz i ∧
          runG W sz (nm0 (labs ns sz)) 0 [] rs = runG W sz nm i im (rs.drop i))
        ⟨_, [], _, _, _, _, rfl, s79, s9 _ _ e8, by rw [llab]; omega, fun p => ?_, nm0_bil lab200, fun x hx => nm0_at labNd hx, e9, Nat.zero_le _, rfl⟩ (fun i σ G _ ⟨_, _, _, _, _, _, _, h, _⟩ => SqL.of (h _ _ hL)) ?_ ?_⟩
      · rw [vNm_at]
        unfold nm0
        rw [Option.map_map]
        rfl
      · rintro i y σ G G' hi ⟨nm, im, kvs, v5, v9, v10, rfl, sG, gN, hkl, hkv, hB, hLb0, gI, hil, hex⟩ ⟨T1, y, z, rfl, hT1, rfl, hy, hz⟩
        rw [lx] at hi
        obtain rfl : V.int (i : Nat) = y := Option.some.inj hy
        have hz' : (xs.map fun x => V.ref x.1)[i]? = some z := hz
        rw [List.getElem?_map] at hz'
        obtain ⟨x, hx, rfl⟩ := Option.map_eq_some_iff.mp hz'
        obtain ⟨r, hr1⟩ : ∃ r, rs[i]? = some r := ⟨rs[i], List.getElem?_eq_getElem hi⟩
        have hA := (hat i x r hx hr1).1.at_
        have hrm := List.mem_of_getElem? hr1
        obtain ⟨ok1, okp, ok2⟩ := hrow r hrm
        have okf := f1 r hrm
        have hdrop : rs.drop i = r :: rs.drop (i + 1) := by
          rw [List.drop_eq_getElem_cons hi]
          rw [List.getElem?_eq_getElem hi] at hr1
          rw [Option.some.inj hr1]
        rw [hdrop, runG] at hex
        have sT : Same G (upd G T1 (.tup [V.int (i : Nat), V.ref x.1])) := Same.add hT1
        have eT : (upd G T1 (.tup [V.int (i : Nat), V.ref x.1])) T1 = some (.tup [V.int (i : Nat), V.ref x.1]) := upd_same
        generalize upd G T1 (.tup [V.int (i : Nat), V.ref x.1]) = G3 at sT eT ⊢
        refine ⟨T1, _, rfl, SqT.of eT, rfl, _, _, rfl, _, _, rfl, rfl, ?_⟩
        dsimp only [gName, List.set]
        have s3 := Same.trans sG sT
        have gN3 := sT _ _ gN
        have gI3 := sT _ _ gI
        have hSt3 := s3 _ _ hSt7
        have dput : DPut G3 Nm (V.str "here") (V.int (lay sz i : Nat)) (upd G3 Nm (.dK (putK kvs (.inr (mk HERE)) (.int (lay sz i : Nat))))) := by
          rw [here_mk]
          exact DPut.k (k := Sum.inr (mk HERE)) gN3 (lineT (by omega))
        refine sqT ?_
        refine ⟨_, rfl, _, rfl, St, _, _, _, rfl, rfl, SqL.of hSt3, hsp i G3 hSt3 (by omega), _, rfl, Nm, _, rfl, dput, ?_⟩
        have s4 : Same H7 (upd G3 Nm (.dK (putK kvs (.inr (mk HERE)) (.int (lay sz i : Nat))))) := Same.mut s3 nNm
        have gN4 : upd G3 Nm (.dK (putK kvs (.inr (mk HERE)) (.int (lay sz i : Nat)))) Nm = some (.dK (putK kvs (.inr (mk HERE)) (.int (lay sz i : Nat)))) := upd_same
        have gI4 : upd G3 Nm (.dK (putK kvs (.inr (mk HERE)) (.int (lay sz i : Nat)))) Im = some (.lst (im.map V.int)) := by rw [upd_ne nIN]; exact gI3
        generalize upd G3 Nm (.dK (putK kvs (.inr (mk HERE)) (.int (lay sz i : Nat)))) = G4 at s4 gN4 gI4 ⊢
        have kl1 : (putK kvs (.inr (mk HERE)) (.int (lay sz i : Nat))).length ≤ 300 + 2 * i + 1 := by
          have := length_putK kvs (.inr (mk HERE)) (.int (lay sz i : Nat))
          omega
        have kv1 : ∀ p : Tx, valV (putK kvs (.inr (mk HERE)) (.int (lay sz i : Nat))) (.inr (mk p)) = (setN nm HERE (lay sz i : Nat) p).map V.int := fun p => by
          rw [valV_put]
          unfold setN
          by_cases c : p = HERE
          · rw [if_pos (by rw [c]), if_pos c]
            rfl
          · rw [if_neg (fun z => c (key_eq.mp z)), if_neg c]
            exact hkv p
        have hB1 := setN_bil (p := HERE) hB (Bil.small (hlay i (by omega)))
        have lbH : ∀ x ∈ labs ns sz, x.1 ≠ HERE := fun x hx z => by
          obtain ⟨y, hy, rfl⟩ := List.mem_map.mp hx
          have := hnsN y hy
          have z : y.1 = HERE := z
          rw [z] at this
          revert this
          decide
        have hL1 : ∀ x ∈ labs ns sz, setN nm HERE ((lay sz i : Nat) : Int) x.1 = some ((x.2 : Nat) : Int) := fun x hx => (setN_ne (lbH x hx)).trans (hLb0 x hx)
        have hH1 : setN nm HERE ((lay sz i : Nat) : Int) HERE = some ((lay sz i : Nat) : Int) := if_pos rfl
        have hlnx : lay sz (i + 1) = lay sz i + sz.getD i 0 := by
          have hiz : i < sz.length := by omega
          have e := lay_next (List.getElem?_eq_getElem hiz)
          rw [List.getD_eq_getElem?_getD, List.getElem?_eq_getElem hiz]
          exact e
        have hly1 := hlay i (by omega)
        have hly2 := hlay (i + 1) (by omega)
        have hn200 : sz.getD i 0 ≤ 200 := by omega
        generalize putK kvs (.inr (mk HERE)) (.int (lay sz i : Nat)) = kvs1 at gN4 kl1 kv1
        generalize setN nm HERE ((lay sz i : Nat) : Int) = nm1 at kv1 hB1 hex hL1 hH1
        have gin : GoalIn nm1 r := fun p hp => by
          obtain ⟨k, hk⟩ := hgin r hrm p hp
          have hm : (p, lay sz k) ∈ labs ns sz := List.mem_map.mpr ⟨(p, k), hk, rfl⟩
          exact ⟨lay sz k, hL1 _ hm, lab200 _ hm⟩
        have hat2 : atI (vNat sz) ((i : Nat) : Int) = some (.int (sz.getD i 0 : Nat)) := atI_nat (by
          unfold vNat
          have hiz : i < sz.length := by omega
          rw [List.getElem?_map, List.getElem?_eq_getElem hiz, List.getD_eq_getElem?_getD, List.getElem?_eq_getElem hiz]
          rfl)
        have hA4 := hA.same s4
        refine sqT ?_
        refine ⟨_, rfl, .inl ⟨rfl, _, SqL.of gI4⟩, _, rfl, _, rfl, _, rfl, S, _, _, _, rfl, rfl, SqL.of (s4 _ _ hS7), hat2, _, rfl, x.1, Nm, r, sz.getD i 0, nm1, rfl, hA4, ok1, okf, ok2, ⟨kvs1, gN4, by omega, kv1⟩, hB1, hn200, gin, ⟨_, hH1, hlay i (by omega)⟩, ?_⟩
        have s74 := Same.trans s07 s4
        cases hw : W nm1 r (sz.getD i 0) with
        | bad y =>
          rw [hw] at hex
          dsimp only at hex
          rw [hex] at qn
          exact fun G5 s5 => qn _ _ rfl G5 (Same.trans s74 s5)
        | ok ws =>
          rw [hw] at hex
          dsimp only at hex
          have hwl := hW _ _ _ _ hw
          refine fun U G5 s5 hU => ⟨Im, U, _, _, rfl, rfl, s5 _ _ gI4, hU, by rw [List.length_map, List.length_map]; omega, ?_⟩
          have s75 := Same.trans s4 s5
          have nI5 : H7 Im = none := nIm
          have sI : Same H7 (upd G5 Im (.lst (im.map V.int ++ ws.map V.int))) := Same.mut s75 nIm
          have gI6 : upd G5 Im (.lst (im.map V.int ++ ws.map V.int)) Im = some (.lst ((im ++ ws).map V.int)) := by rw [upd_same, List.map_append]
          have gN6 : upd G5 Im (.lst (im.map V.int ++ ws.map V.int)) Nm = some (.dK kvs1) := by rw [upd_ne nIN.symm]; exact s5 _ _ gN4
          generalize upd G5 Im (.lst (im.map V.int ++ ws.map V.int)) = G6 at sI gI6 gN6 ⊢
          obtain ⟨dx, tl2, pl, a1, a2, a3⟩ := hA.same sI
          have lim : (im ++ ws).length ≤ 331 * (i + 1) + lay sz (i + 1) := by rw [List.length_append]; omega
          refine ⟨_, rfl, x.1, CR, dx, _, _, rfl, a1, T.cl, T.n _ m_word, rf_word _ _ _ _ _ _, rfl, _, rfl, ?_⟩
          by_cases c : wS r = ".let"
          · rw [if_pos c] at hex
            obtain ⟨p0, p1, hpp⟩ := form_let okf c
            rw [hpp] at hex a3
            have okq := ok1.1.1 p1 (by rw [hpp]; simp)
            refine itT (decide_eq_true (congrArg V.str c)) ?_
            refine ⟨_, rfl, x.1, CR, dx, _, _, rfl, a1, T.cl, T.n _ m_number, rf_number _ _ _ _ _ _, _, rfl, x.1, CR, dx, _, _, rfl, a1, T.cl, T.n _ m_parts, rf_parts _ _ _ _ _ _, pl, _, _, _, rfl, rfl, SqL.of a3, atI_nat (j := 1) rfl, _, rfl, r.number, p1, "any", -1000000000, 1000000000, Nm, nm1, rfl, ok1.2.2, okq.1, okq.2, by decide +kernel, ⟨kvs1, gN6, by omega, kv1⟩, hB1, ?_⟩
            cases hs : sumT nm1 p1 (-1000000000) 1000000000 with
            | bad y =>
              have hex : runG W sz (nm0 (labs ns sz)) 0 [] rs = (match sumT nm1 p1 (-1000000000) 1000000000 with
                | .bad y => .bad r.number y
                | .ok v => runG W sz (setN nm1 p0 v) (i + 1) (im ++ ws) (rs.drop (i + 1))) := hex
              rw [hs] at hex
              dsimp only at hex
              rw [hex] at qn
              exact fun G7 s7' => qn _ _ rfl G7 (Same.trans (Same.trans s07 sI) s7')
            | ok v =>
              have hex : runG W sz (nm0 (labs ns sz)) 0 [] rs = (match sumT nm1 p1 (-1000000000) 1000000000 with
                | .bad y => .bad r.number y
                | .ok v => runG W sz (setN nm1 p0 v) (i + 1) (im ++ ws) (rs.drop (i + 1))) := hex
              rw [hs] at hex
              dsimp only at hex
              have hv : Bil v := by
                unfold sumT at hs
                split at hs
                · cases hs
                · split at hs
                  · rename_i h
                    cases hs
                    exact h
                  · cases hs
              refine fun G7 s7' => ⟨_, rfl, _, rfl, x.1, CR, dx, _, _, rfl, s7' _ _ a1, T.cl, T.n _ m_parts, rf_parts _ _ _ _ _ _, pl, _, _, _, rfl, rfl, SqL.of (s7' _ _ a3), atI_nat (j := 0) rfl, Nm, _, rfl, DPut.k (k := Sum.inr (mk p0)) (s7' _ _ gN6) (lineT (by omega)), ?_⟩
              refine ⟨setN nm1 p0 v, im ++ ws, _, _, _, _, rfl, Same.mut (Same.trans sI s7') nNm, upd_same, ?_, fun p => ?_, setN_bil hB1 hv, fun y hy => (setN_ne fun z => by obtain ⟨y0, hy0, rfl⟩ := List.mem_map.mp hy; exact nn2 r hrm c p0 [p1] hpp y0 hy0 z).trans (hL1 y hy), by rw [upd_ne nIN]; exact s7' _ _ gI6, lim, hex⟩
              · have := length_putK kvs1 (.inr (mk p0)) (.int v)
                omega
              · rw [valV_put]
                unfold setN
                by_cases cp : p = p0
                · rw [if_pos (by rw [cp]), if_pos cp]
                  rfl
                · rw [if_neg (fun z => cp (key_eq.mp z)), if_neg cp]
                  exact kv1 p
          · rw [if_neg c] at hex
            exact itF (decide_eq_false fun z => c (V.str.inj z)) ⟨nm1, im ++ ws, kvs1, _, _, _, rfl, sI, gN6, by omega, kv1, hB1, hL1, gI6, lim, hex⟩
      · rintro σ G ⟨nm, im, kvs, v5, v9, v10, rfl, sG, gN, hkl, hkv, hB, hLb0, gI, hil, hex⟩
        rw [lx, List.drop_length, runG] at hex
        rw [hex] at qy
        refine ⟨_, rfl, Im, _, rfl, .inl ⟨SqL.of gI, fun U hU => ?_⟩⟩
        have s2 : Same G (upd G U (.tup (im.map V.int))) := Same.add hU
        have e2 : (upd G U (.tup (im.map V.int))) U = some (.tup (im.map V.int)) := upd_same
        generalize upd G U (.tup (im.map V.int)) = G2 at s2 e2 ⊢
        refine ⟨_, rfl, line5 (by simp), fun TT hTT => ?_⟩
        have sE := Same.trans s2 (Same.add (o := .tup [V.ref U, V.ref Lb]) hTT)
        refine qy im (labs ns sz) rfl TT U Lb _ (Same.trans s07 (Same.trans sG sE)) (SqT.of upd_same) (Same.tup (Same.add hTT) (SqT.of e2)) (free_of s06 nL6) (sE _ _ (sG _ _ hLb7))
abbrev KnJoined (P : Program) (w : World) (K : PySem.W.Frag) (mg : Str → Option Value) (base : Heap) (W : WFn) (OK : Rw → Prop) : Prop := Kn P w K mg base (L2.CX P w) 8 "joined" ["text"] [] (spJoined K W OK)
end
end Bm
set_option maxHeartbeats 1000000
namespace Bm
open PySem PySem.Spec PyProof.Rows L2
section
variable {P : Program} {w : World} {K : PySem.W.Frag} {mg : Str → Option Value} {base : Heap} {f CR : Addr} {fd : FuncData} {dvs : List V}
def spAsm (K : PySem.W.Frag) (W : WFn) (OK : Rw → Prop) : Sp := fun vs H Q E => ∃ l : Tx, vs = [.str (mk l)] ∧ TxOk OK l ∧
  (∀ im ls, jnT W l = .ok (im, ls) → ∀ U H', Same H H' → SqT K H' U (im.map V.int) → Q (.ref U) H') ∧ (∀ n y, jnT W l = .bad n y → ∀ H', Same H H' → Rfs K E H' n y)
abbrev N_assembled : List Str := ["text", "image", "_"]
theorem sc_assembled : FnScope ["text", "image", "_"] ["text"] (defScope s_assembled) := ⟨rfl, rfl, rfl, by decide +kernel, rfl, by decide +kernel, by decide +kernel⟩
theorem ok_asm {W : WFn} {OK : Rw → Prop} (F : FnP K "assembled" s_assembled dvs f fd) (k_joined : KnJoined P w K mg base W OK) : FnOk P w K mg base (L2.CX P w) 9 f fd ["text"] (spAsm K W OK) := by
  refine F.ok sc_assembled (fun vs H Q E h => ?_) (fun cdv A outer s H vs Q E hr h => ?_)
  · obtain ⟨l, rfl, _⟩ := h
    rfl
  · obtain ⟨l, rfl, hl, qy, qn⟩ := h
    refine ⟨_, (pss_cons (ps_asg (pk k_joined hr (by decide) rfl passT (pa_cons (pv 0) pa_nil)) (pg_tup rfl (pgs_cons (pg_name (i := 1) sc_assembled.nd rfl (Or.inl rfl)) (pgs_cons (pg_name (i := 2) sc_assembled.nd rfl (Or.inl rfl)) pgs_nil))))
      (pss_one (ps_ret (pv 1)))), ?_⟩
    refine sqT ?_
    refine ⟨_, rfl, l, rfl, hl, fun im ls e T U D H' s hT hU _ _ => ?_, fun n y e H' s => qn n y e H' s⟩
    exact ⟨T, _, rfl, hT, rfl, _, _, rfl, _, _, rfl, rfl, _, rfl, qy im ls e U H' s hU⟩
abbrev KnAsm (P : Program) (w : World) (K : PySem.W.Frag) (mg : Str → Option Value) (base : Heap) (W : WFn) (OK : Rw → Prop) : Prop := Kn P w K mg base (L2.CX P w) 9 "assembled" ["text"] [] (spAsm K W OK)
end
end Bm
set_option maxHeartbeats 1000000
/-! what the law's five rows come to -/
namespace Bm
open PySem PySem.Spec PyProof.Rows L2
abbrev lr (k : Nat) (rest nm : Tx) (i : Int) : Rw := ⟨k, none, rest, LETt, [nm, decT i], [nm, decT i]⟩
abbrev wr (k : Nat) (rest : Tx) (ts ps : List Tx) : Rw := ⟨k, none, rest, WORDt, ts, ps⟩
theorem let_mk : mk LETt = (".let" : Str) := rfl
theorem word_mk : mk WORDt = (".word" : Str) := rfl
theorem let_nw : ¬ mk LETt = (".word" : Str) := by decide +kernel
theorem let_ne : ¬ mk LETt = ("" : Str) := by decide +kernel
theorem word_ne : ¬ mk WORDt = ("" : Str) := by decide +kernel
theorem word_nl : ¬ mk WORDt = (".let" : Str) := by decide +kernel
theorem form_lr {k : Nat} {rest nm : Tx} {i : Int} (h : isNm nm = true) : isFormT (lr k rest nm i) = true := by
  have k3 : kindsS (mk LETt) = some ([("name" : Str), "any"]) := by decide +kernel
  unfold isFormT
  show (if mk LETt = "" then true else _) = true
  rw [if_neg let_ne, if_neg let_nw, k3]
  dsimp only
  rw [if_pos (.inl rfl)]
  show (fitsT "name" nm && (fitsT "any" (decT i) && true)) = true
  have f1 : fitsT "name" nm = isNm nm := by
    unfold fitsT
    rw [if_neg (by decide +kernel), if_neg (by decide +kernel), if_pos rfl]
  have f2 : fitsT "any" (decT i) = true := by
    unfold fitsT
    rw [if_neg (by decide +kernel), if_neg (by decide +kernel), if_neg (by decide +kernel), if_neg (by decide +kernel), decide_eq_false (decT_ne i)]
    rfl
  rw [f1, f2, h]
  rfl
theorem form_wr {k : Nat} {rest : Tx} {ts ps : List Tx} : isFormT (wr k rest ts ps) = (decide (0 < ps.length) && !decide ([] ∈ ps)) := by
  unfold isFormT
  show (if mk WORDt = "" then true else _) = _
  rw [if_neg word_ne, if_pos word_mk]
theorem own_lr {k : Nat} {rest nm : Tx} {i : Int} : ownT (lr k rest nm i) = [nm] := by
  unfold ownT
  rw [if_pos let_mk]
  rfl
theorem own_wr {k : Nat} {rest : Tx} {ts ps : List Tx} : ownT (wr k rest ts ps) = [] := by
  unfold ownT
  rw [if_neg word_nl]
  rfl
theorem goal_lr {k : Nat} {rest nm : Tx} {i : Int} : goalT (lr k rest nm i) = none := by
  have : goesS (lr k rest nm i) = false := by
    show (decide (mk LETt ∈ JMn) || decide (mk LETt ∈ CLn)) = false
    decide +kernel
  unfold goalT
  rw [this, if_neg Bool.false_ne_true]
theorem goal_wr {k : Nat} {rest : Tx} {ts ps : List Tx} : goalT (wr k rest ts ps) = none := by
  have : goesS (wr k rest ts ps) = false := by
    show (decide (mk WORDt ∈ JMn) || decide (mk WORDt ∈ CLn)) = false
    decide +kernel
  unfold goalT
  rw [this, if_neg Bool.false_ne_true]
theorem least_lr {k : Nat} {rest nm : Tx} {i : Int} : leastT (lr k rest nm i) = 0 := if_pos (.inr let_mk)
theorem least_wr {k : Nat} {rest : Tx} {ts ps : List Tx} : leastT (wr k rest ts ps) = ps.length := by
  unfold leastT
  rw [if_neg (fun h => h.elim word_ne word_nl), if_pos word_mk]
def BIGt : Tx := [98, 105, 103]
def Nt : Tx := [110]
def X1t : Tx := [120, 49]
/-- what the law knows -/
def nmL (b n x : Int) : Tx → Option Int := setN (setN (setN (setN (fun _ => none) BIGt b) Nt n) X1t x) HERE 1
theorem nums_law {r0 r1 r2 r3 r4 : Tx} {b n x : Int} {t3 t4 p4 : List Tx} : numsG 0 [] [] [lr 0 r0 BIGt b, lr 1 r1 Nt n, lr 2 r2 X1t x, wr 3 r3 t3 [[55]], wr 4 r4 t4 p4] = if 0 < p4.length ∧ [] ∉ p4 then .ok [] else .bad 4 "form" := by
  have w7 : (decide (0 < ([[55]] : List Tx).length) && !decide ([] ∈ ([[55]] : List Tx))) = true := by decide
  rw [numsG, form_lr (by decide), if_neg (by simp), own_lr, if_neg (by decide)]
  dsimp only
  rw [numsG, form_lr (by decide), if_neg (by simp), own_lr, if_neg (by decide)]
  dsimp only
  rw [numsG, form_lr (by decide), if_neg (by simp), own_lr, if_neg (by decide)]
  dsimp only
  rw [numsG, form_wr, w7, if_neg (by simp), own_wr, if_neg (by decide)]
  dsimp only
  rw [numsG, form_wr, own_wr]
  by_cases h : 0 < p4.length ∧ [] ∉ p4
  · rw [if_pos h, decide_eq_true h.1, decide_eq_false h.2, if_neg (by decide), if_neg (by decide)]
    dsimp only
    rw [numsG]
  · rw [if_neg h, if_pos]
    by_cases h1 : 0 < p4.length
    · rw [decide_eq_true h1, decide_eq_true (Decidable.byContradiction fun z => h ⟨h1, z⟩)]
      rfl
    · rw [decide_eq_false h1]
      rfl
theorem goals_law {r0 r1 r2 r3 r4 : Tx} {b n x : Int} {t3 t4 p4 : List Tx} : goalsG [] [] [lr 0 r0 BIGt b, lr 1 r1 Nt n, lr 2 r2 X1t x, wr 3 r3 t3 [[55]], wr 4 r4 t4 p4] = .ok [none, none, none, none, none] := by
  rw [goalsG, goal_lr]
  dsimp only
  rw [goalsG, goal_lr]
  dsimp only
  rw [goalsG, goal_lr]
  dsimp only
  rw [goalsG, goal_wr]
  dsimp only
  rw [goalsG, goal_wr]
  dsimp only
  rw [goalsG]
  rfl
theorem sizes_law {k : Nat} : wEndS [none, none, none, none, none] [0, 0, 0, 1, k] = [0, 0, 0, 1, k] := by
  have h : ∀ j, farAt [none, none, none, none, none] (wM [none, none, none, none, none] [0, 0, 0, 1, k] 0) j = false := fun j => by
    unfold farAt
    match j with
    | 0 => rfl
    | 1 => rfl
    | 2 => rfl
    | 3 => rfl
    | 4 => rfl
    | j + 5 => rfl
  exact (wEndS_of (s0 := [0, 0, 0, 1, k]) rfl h).symm
def NmP (nm : Tx → Option Int) : Prop := ∀ p i, nm p = some i → isNm p = true ∨ p = HERE
theorem NmP.set {nm : Tx → Option Int} (h : NmP nm) {q : Tx} (hq : isNm q = true ∨ q = HERE) (v : Int) : NmP (setN nm q v) := fun p i e => by
  unfold setN at e
  split at e
  · rename_i c
    rw [c]
    exact hq
  · exact h p i e
theorem sum_decI {nm : Tx → Option Int} (hn : NmP nm) {i : Int} (h : i.natAbs < 100000) : sumT nm (decT i) (-1000000000) 1000000000 = .ok i := by
  by_cases h0 : 0 ≤ i
  · obtain ⟨m, rfl⟩ := Int.eq_ofNat_of_zero_le h0
    have e : decT ((m : Nat) : Int) = digT m := decT_nat m
    rw [e]
    exact sum_decN hn (by omega)
  · obtain ⟨m, rfl⟩ : ∃ m : Nat, i = Int.negSucc m := by
      cases i with
      | ofNat m => exact absurd (Int.natCast_nonneg m) h0
      | negSucc m => exact ⟨m, rfl⟩
    have hm : m + 1 < 100000 := by
      have : (Int.negSucc m).natAbs = m + 1 := rfl
      omega
    rw [decT_neg, sum_decM hn hm]
    exact congrArg Rs.ok (by rw [Int.negSucc_eq]; omega)
theorem run_let {sz : List Nat} {nm : Tx → Option Int} (hn : NmP nm) {k j : Nat} {im : List Int} {rest q : Tx} {i : Int} (hi : i.natAbs < 100000) (rs : List Rw) : runG wSim sz nm j im (lr k rest q i :: rs) = runG wSim sz (setN (setN nm HERE (lay sz j)) q i) (j + 1) im rs := by
  rw [runG]
  have hw : wSim (setN nm HERE (lay sz j)) (lr k rest q i) (sz.getD j 0) = .ok [] := if_neg let_nw
  rw [hw]
  dsimp only
  rw [if_pos let_mk]
  have hs : sumT (setN nm HERE (lay sz j)) ([q, decT i].getD 1 []) (-1000000000) 1000000000 = .ok i := sum_decI (hn.set (.inr rfl) _) hi
  show (match sumT (setN nm HERE (lay sz j)) ([q, decT i].getD 1 []) (-1000000000) 1000000000 with
    | .bad y => RsN.bad k y
    | .ok v => runG wSim sz (setN (setN nm HERE (lay sz j)) ([q, decT i].getD 0 []) v) (j + 1) (im ++ []) rs) = _
  rw [hs, List.append_nil]
  rfl
theorem run_word {sz : List Nat} {nm : Tx → Option Int} {k j : Nat} {im : List Int} {rest : Tx} {ts ps : List Tx} (rs : List Rw) : runG wSim sz nm j im (wr k rest ts ps :: rs) = match sumsW (setN nm HERE (lay sz j)) ps with
    | .bad y => .bad k y
    | .ok ws => runG wSim sz (setN nm HERE (lay sz j)) (j + 1) (im ++ ws) rs := by
  rw [runG]
  have hw : wSim (setN nm HERE (lay sz j)) (wr k rest ts ps) (sz.getD j 0) = sumsW (setN nm HERE (lay sz j)) ps := if_pos word_mk
  rw [hw]
  cases sumsW (setN nm HERE (lay sz j)) ps with
  | bad y => rfl
  | ok ws =>
    dsimp only
    rw [if_neg word_nl]
theorem sum_seven {nm : Tx → Option Int} (hn : NmP nm) : sumsW nm [[55]] = .ok [7] := by
  have e7 : digT 7 = [55] := by decide
  have h : sumT nm [55] (-32768) 65535 = .ok 7 := by
    have h1 := worth_dig hn (m := 7) (by decide)
    rw [e7] at h1
    exact sumT_one (p := [55]) (c := 43) (by decide) h1 (on_plus (by decide) (by decide)) (by decide)
  rw [sumsW, h]
  dsimp only
  rw [sumsW]
  rfl
theorem run_law {r0 r1 r2 r3 r4 : Tx} {b n x : Int} {t3 t4 : List Tx} {p : Tx} (hb : b.natAbs < 100000) (hn : n.natAbs < 100000) (hx : x.natAbs < 100000) : runG wSim [0, 0, 0, 1, 1] (nm0 []) 0 [] [lr 0 r0 BIGt b, lr 1 r1 Nt n, lr 2 r2 X1t x, wr 3 r3 t3 [[55]], wr 4 r4 t4 [p]] = match sumT (nmL b n x) p (-32768) 65535 with
    | .bad y => .bad 4 y
    | .ok i => .ok [7, i % 65536] := by
  have n0 : NmP (nm0 []) := fun p i e => by cases e
  have n1 := (n0.set (.inr rfl) ((lay [0, 0, 0, 1, 1] 0 : Nat) : Int)).set (q := BIGt) (.inl (by decide)) b
  have n2 := (n1.set (.inr rfl) ((lay [0, 0, 0, 1, 1] 1 : Nat) : Int)).set (q := Nt) (.inl (by decide)) n
  have n3 := (n2.set (.inr rfl) ((lay [0, 0, 0, 1, 1] 2 : Nat) : Int)).set (q := X1t) (.inl (by decide)) x
  rw [run_let n0 hb, run_let n1 hn, run_let n2 hx, run_word, sum_seven (n3.set (.inr rfl) _)]
  dsimp only
  rw [run_word, sumsW]
  have hnm : setN (setN (setN (setN (setN (setN (setN (setN (nm0 []) HERE ((lay [0, 0, 0, 1, 1] 0 : Nat) : Int)) BIGt b) HERE ((lay [0, 0, 0, 1, 1] (0 + 1) : Nat) : Int)) Nt n) HERE ((lay [0, 0, 0, 1, 1] (0 + 1 + 1) : Nat) : Int)) X1t x) HERE ((lay [0, 0, 0, 1, 1] (0 + 1 + 1 + 1) : Nat) : Int)) HERE ((lay [0, 0, 0, 1, 1] (0 + 1 + 1 + 1 + 1) : Nat) : Int) = nmL b n x := by
    funext q
    have e4 : lay [0, 0, 0, 1, 1] (0 + 1 + 1 + 1 + 1) = 1 := by decide
    rw [e4]
    unfold nmL setN
    by_cases h : q = HERE
    · rw [if_pos h, if_pos h]
      rfl
    · simp only [if_neg h]
      rfl
  rw [hnm]
  cases sumT (nmL b n x) p (-32768) 65535 with
  | bad y => rfl
  | ok i =>
    dsimp only
    rw [sumsW]
    dsimp only
    rw [runG]
    rfl
/-- the law's text joined -/
theorem jn_law {r0 r1 r2 r3 r4 : Tx} {b n x : Int} {t3 t4 p4 : List Tx} (hb : b.natAbs < 100000) (hn : n.natAbs < 100000) (hx : x.natAbs < 100000) (hp : p4 = [] ∨ ∃ p, p4 = [p] ∧ p ≠ []) : jnR wSim [lr 0 r0 BIGt b, lr 1 r1 Nt n, lr 2 r2 X1t x, wr 3 r3 t3 [[55]], wr 4 r4 t4 p4] = match p4 with
    | [] => .bad 4 "form"
    | p :: _ => match sumT (nmL b n x) p (-32768) 65535 with
      | .bad y => .bad 4 y
      | .ok i => .ok ([7, i % 65536], []) := by
  unfold jnR
  rw [nums_law]
  rcases hp with rfl | ⟨p, rfl, hpn⟩
  · rw [if_neg (by simp)]
  · rw [if_pos ⟨by simp, by simpa using hpn.symm⟩]
    dsimp only
    rw [goals_law]
    dsimp only
    have hl : [lr 0 r0 BIGt b, lr 1 r1 Nt n, lr 2 r2 X1t x, wr 3 r3 t3 [[55]], wr 4 r4 t4 [p]].map leastT = [0, 0, 0, 1, 1] := by
      rw [List.map_cons, List.map_cons, List.map_cons, List.map_cons, List.map_cons, least_lr, least_lr, least_lr, least_wr, least_wr]
      rfl
    rw [hl, sizes_law]
    have hlong : longG [0, 0, 0, 1, 1] 0 [lr 0 r0 BIGt b, lr 1 r1 Nt n, lr 2 r2 X1t x, wr 3 r3 t3 [[55]], wr 4 r4 t4 [p]] = none := by
      rw [longG, if_neg (by decide), longG, if_neg (by decide), longG, if_neg (by decide), longG, if_neg (by decide), longG, if_neg (by decide), longG]
    rw [hlong]
    dsimp only
    have hlab : labs [] [0, 0, 0, 1, 1] = [] := rfl
    rw [hlab, run_law hb hn hx]
    cases sumT (nmL b n x) p (-32768) 65535 with
    | bad y => rfl
    | ok i => rfl
end Bm
set_option maxHeartbeats 1000000
/-! the law's text as a whole -/
namespace Bm
open PySem PySem.Spec PyProof.Rows L2
def lawTx (b n x : Int) (t : Tx) : Tx := letRow BIGt b ++ 10 :: (letRow Nt n ++ 10 :: (letRow X1t x ++ 10 :: ((WORDt ++ 32 :: [55]) ++ 10 :: (WORDt ++ 32 :: t))))
theorem exG_five {a b c d e : Tx} (ha : (rowT 0 a).label = none) (hb : (rowT 1 b).label = none) (hc : (rowT 2 c).label = none) (hd : (rowT 3 d).label = none) (he : (rowT 4 e).label = none) : exG 0 [] [a, b, c, d, e] = .ok [rowT 0 a, rowT 1 b, rowT 2 c, rowT 3 d, rowT 4 e] := by
  have hb : (rowT (0 + 1) b).label = none := hb
  have hc : (rowT (0 + 1 + 1) c).label = none := hc
  have hd : (rowT (0 + 1 + 1 + 1) d).label = none := hd
  have he : (rowT (0 + 1 + 1 + 1 + 1) e).label = none := he
  rw [exG, ha]
  dsimp only
  rw [if_neg (by simp), exG, hb]
  dsimp only
  rw [if_neg (by simp), exG, hc]
  dsimp only
  rw [if_neg (by simp), exG, hd]
  dsimp only
  rw [if_neg (by simp), exG, he]
  dsimp only
  rw [if_neg (by simp), exG]
  rfl
theorem seven_row (n : Nat) : rowT n (WORDt ++ 32 :: [55]) = wr n [55] [[55]] [[55]] := by
  have h := row_wb (wd := WORDt) (bd := [55]) (by decide) (by decide) (by decide) (by decide) (by decide) n
  rw [h]
  have e1 : stripT [55] = [55] := by decide
  have e2 : partsT [55] = [[55]] := by decide
  have e3 : lowd WORDt = WORDt := by decide
  rw [e1, e2, e3]
  rfl
theorem low_ne {p : Tx} (h : p ≠ []) : lowd p ≠ [] := fun z => by
  have := congrArg List.length z
  rw [lowd_len] at this
  exact h (List.eq_nil_of_length_eq_zero this)
theorem bigN : ∀ c ∈ BIGt, 97 ≤ c ∧ c ≤ 122 ∨ 48 ≤ c ∧ c ≤ 57 := by decide
theorem nN : ∀ c ∈ Nt, 97 ≤ c ∧ c ≤ 122 ∨ 48 ≤ c ∧ c ≤ 57 := by decide
theorem x1N : ∀ c ∈ X1t, 97 ≤ c ∧ c ≤ 122 ∨ 48 ≤ c ∧ c ≤ 57 := by decide
theorem let_clean {nm : Tx} {i : Int} (hnn : nm ≠ []) (h1 : ∀ c ∈ nm, 97 ≤ c ∧ c ≤ 122 ∨ 48 ≤ c ∧ c ≤ 57) : 10 ∉ letRow nm i ∧ 59 ∉ letRow nm i := by
  have h := (let_row hnn h1 i 0).2.2
  exact ⟨fun z => by have := h 10 z; omega, fun z => by have := h 59 z; omega⟩
theorem law_rows {b n x : Int} {t : Tx} (ht : SgT t) : rowsT (lawTx b n x t) = [letRow BIGt b, letRow Nt n, letRow X1t x, WORDt ++ 32 :: [55], stripT (WORDt ++ 32 :: t)] := by
  have w1 : 10 ∉ WORDt ++ 32 :: t ∧ 59 ∉ WORDt ++ 32 :: t := by
    constructor
    · intro z
      rcases List.mem_append.mp z with z | z
      · revert z; decide
      · rcases List.mem_cons.mp z with z | z
        · cases z
        · have := (ht 10 z).1
          omega
    · intro z
      rcases List.mem_append.mp z with z | z
      · revert z; decide
      · rcases List.mem_cons.mp z with z | z
        · cases z
        · exact (ht 59 z).2.2.2.2 rfl
  unfold lawTx
  rw [rows_five (let_clean (by decide) bigN) (let_clean (by decide) nN) (let_clean (by decide) x1N) (by decide) w1 (by simp), (let_row (by decide) bigN b 0).2.1, (let_row (by decide) nN n 0).2.1, (let_row (by decide) x1N x 0).2.1]
  have e7 : stripT (WORDt ++ 32 :: [55]) = WORDt ++ 32 :: [55] := by decide
  rw [e7]
theorem nmL_ok (b n x : Int) : NmsOk (nmL b n x) := by
  refine ⟨?_, ?_⟩
  · have h0 : NmP (fun _ => none) := fun p i e => by cases e
    exact (((h0.set (q := BIGt) (.inl (by decide)) b).set (q := Nt) (.inl (by decide)) n).set (q := X1t) (.inl (by decide)) x).set (.inr rfl) 1
  · unfold nmL
    show (if HERE = HERE then some (1 : Int) else _) ≠ none
    rw [if_pos rfl]
    exact fun z => by cases z
/-- the whole: as the law reckons it -/
theorem jnT_law {b n x : Int} {t : Tx} (hb : b.natAbs < 100000) (hn : n.natAbs < 100000) (hx : x.natAbs < 100000) (ht : SgT t) : jnT wSim (lawTx b n x t) = if stripT t = [] then .bad 4 "form" else match lawSum (nmL b n x) t with
    | .bad y => .bad 4 y
    | .ok i => if -32768 ≤ i ∧ i ≤ 65535 then .ok ([7, i % 65536], []) else .bad 4 "number" := by
  obtain ⟨r0, e0⟩ := (let_row (nm := BIGt) (by decide) bigN b 0).1
  obtain ⟨r1, e1⟩ := (let_row (nm := Nt) (by decide) nN n 1).1
  obtain ⟨r2, e2⟩ := (let_row (nm := X1t) (by decide) x1N x 2).1
  have e3 := seven_row 3
  obtain ⟨w1, w2⟩ := word_row ht 4
  unfold jnT
  rw [law_rows ht]
  by_cases hs : stripT t = []
  · obtain ⟨r4, e4⟩ := w1 hs
    rw [exG_five (by rw [e0]) (by rw [e1]) (by rw [e2]) (by rw [e3]) (by rw [e4]), e0, e1, e2, e3, e4, if_pos hs]
    exact jn_law hb hn hx (.inl rfl)
  · obtain ⟨r4, e4⟩ := w2 hs
    rw [exG_five (by rw [e0]) (by rw [e1]) (by rw [e2]) (by rw [e3]) (by rw [e4]), e0, e1, e2, e3, e4, if_neg hs]
    dsimp only
    refine (jn_law hb hn hx (.inr ⟨_, rfl, low_ne hs⟩)).trans ?_
    dsimp only
    rw [sumT_same (nmL_ok b n x)]
    cases lawSum (nmL b n x) t with
    | bad y => rfl
    | ok i =>
      dsimp only
      by_cases h : -32768 ≤ i ∧ i ≤ 65535
      · rw [if_pos h, if_pos h]
      · rw [if_neg h, if_neg h]
theorem decT_len {i : Int} (h : i.natAbs < 100000) : (decT i).length ≤ 6 := int_short h
theorem law_ok {b n x : Int} {t : Tx} (hb : b.natAbs < 100000) (hn : n.natAbs < 100000) (hx : x.natAbs < 100000) (ht : SgT t) (hl : t.length ≤ 200) : TxOk okSim (lawTx b n x t) := by
  have l1 := decT_len hb
  have l2 := decT_len hn
  have l3 := decT_len hx
  have c0 := fun k => (let_row (nm := BIGt) (by decide) bigN b k)
  have c1 := fun k => (let_row (nm := Nt) (by decide) nN n k)
  have c2 := fun k => (let_row (nm := X1t) (by decide) x1N x k)
  have plain : ∀ (q : Tx), (∀ c ∈ q, c = 46 ∨ c = 32 ∨ c = 44 ∨ c = 45 ∨ 97 ≤ c ∧ c ≤ 122 ∨ 48 ≤ c ∧ c ≤ 57) → ClT q := fun q h c hc => by
    have := h c hc
    omega
  have p0 := plain _ (c0 0).2.2
  have p1 := plain _ (c1 0).2.2
  have p2 := plain _ (c2 0).2.2
  have p3 : ClT (WORDt ++ 32 :: [55]) := show ∀ c ∈ WORDt ++ 32 :: [55], 32 ≤ c ∧ c < 127 by decide
  have p4 : ClT (WORDt ++ 32 :: t) := fun c hc => by
    rcases List.mem_append.mp hc with z | z
    · have : ∀ d ∈ WORDt, 32 ≤ d ∧ d < 127 := by decide
      exact this c z
    · rcases List.mem_cons.mp z with rfl | z
      · decide
      · exact ⟨(ht c z).1, (ht c z).2.1⟩
  have n0 : (letRow BIGt b).length ≤ 20 := by
    unfold letRow LETt BIGt
    simp only [List.length_append, List.length_cons, List.length_nil]
    omega
  have n1 : (letRow Nt n).length ≤ 20 := by
    unfold letRow LETt Nt
    simp only [List.length_append, List.length_cons, List.length_nil]
    omega
  have n2 : (letRow X1t x).length ≤ 20 := by
    unfold letRow LETt X1t
    simp only [List.length_append, List.length_cons, List.length_nil]
    omega
  have n4 : (WORDt ++ 32 :: t).length ≤ 206 := by
    unfold WORDt
    simp only [List.length_append, List.length_cons, List.length_nil]
    omega
  have n4s := stripT_len (WORDt ++ 32 :: t)
  have okw : ∀ k, wS (rowT k (stripT (WORDt ++ 32 :: t))) = ".word" := fun k => by
    obtain ⟨w1, w2⟩ := word_row ht k
    by_cases hs : stripT t = []
    · obtain ⟨r, e⟩ := w1 hs
      rw [e]
      exact word_mk
    · obtain ⟨r, e⟩ := w2 hs
      rw [e]
      exact word_mk
  have okl : ∀ (q : Tx), q = letRow BIGt b ∨ q = letRow Nt n ∨ q = letRow X1t x → ∀ k, wS (rowT k q) = ".let" := fun q hq k => by
    rcases hq with rfl | rfl | rfl
    · obtain ⟨r, e⟩ := (c0 k).1
      rw [e]
      exact let_mk
    · obtain ⟨r, e⟩ := (c1 k).1
      rw [e]
      exact let_mk
    · obtain ⟨r, e⟩ := (c2 k).1
      rw [e]
      exact let_mk
  have rows : ∀ q ∈ rowsT (lawTx b n x t), (ClT q ∧ q.length ≤ 280) ∧ ((∀ k, wS (rowT k q) = ".let") ∨ ∀ k, wS (rowT k q) = ".word") := fun q hq => by
    rw [law_rows ht] at hq
    simp only [List.mem_cons, List.not_mem_nil, or_false] at hq
    rcases hq with rfl | rfl | rfl | rfl | rfl
    · exact ⟨⟨p0, by omega⟩, .inl (okl _ (.inl rfl))⟩
    · exact ⟨⟨p1, by omega⟩, .inl (okl _ (.inr (.inl rfl)))⟩
    · exact ⟨⟨p2, by omega⟩, .inl (okl _ (.inr (.inr rfl)))⟩
    · exact ⟨⟨p3, by decide⟩, .inr fun k => by rw [seven_row]; exact word_mk⟩
    · exact ⟨⟨p4.sub (stripT_sub _), by omega⟩, .inr okw⟩
  refine ⟨fun c hc => ?_, ?_, fun q hq => ⟨(rows q hq).1.1, (rows q hq).1.2, fun k => ?_⟩, fun q hq k => ?_⟩
  · unfold lawTx at hc
    rcases List.mem_append.mp hc with z | z
    · exact .inr (p0 c z)
    rcases List.mem_cons.mp z with z | z
    · exact .inl z
    rcases List.mem_append.mp z with z | z
    · exact .inr (p1 c z)
    rcases List.mem_cons.mp z with z | z
    · exact .inl z
    rcases List.mem_append.mp z with z | z
    · exact .inr (p2 c z)
    rcases List.mem_cons.mp z with z | z
    · exact .inl z
    rcases List.mem_append.mp z with z | z
    · exact .inr (p3 c z)
    rcases List.mem_cons.mp z with z | z
    · exact .inl z
    · exact .inr (p4 c z)
  · unfold lawTx
    have n3 : (WORDt ++ 32 :: [55]).length = 7 := rfl
    rw [List.length_append, List.length_cons, List.length_append, List.length_cons, List.length_append, List.length_cons, List.length_append, List.length_cons, n3]
    omega
  · rcases (rows q hq).2 with h | h
    · exact .inr (.inl (h k))
    · exact .inr (.inr (h k))
  · rcases (rows q hq).2 with h | h
    · rw [h k]
      decide +kernel
    · rw [h k]
      decide +kernel
end Bm
set_option maxHeartbeats 1600000
namespace Bm
open PySem PySem.Spec PyProof.Rows L2
section
variable {P : Program} {w : World} {K : PySem.W.Frag} {mg : Str → Option Value} {base : Heap} {fd fk : FuncData} {dvs : List V}
noncomputable def r1L (nm : Tx → Option Int) (l : Tx) : Rs Int := match lawSum nm l with
  | .bad y => .bad y
  | .ok i => if -32768 ≤ i ∧ i ≤ 65535 then .ok (i % 65536) else .bad "number"
def rowD (y : Str) : PyData := .tuple [.str "BadRow", .int 4, .str y]
noncomputable def dueD (nm : Tx → Option Int) (l : Tx) : PyData := if stripT l = [] then rowD "form" else match r1L nm l with
  | .bad y => rowD y
  | .ok j => .tuple [.int 7, .int j]
theorem dueD_small (nm : Tx → Option Int) (l : Tx) : (dueD nm l).depth < 3 ∧ smallD (dueD nm l) := by
  unfold dueD rowD
  split
  · exact ⟨by simp [PyData.depth, PyData.depthAll], by simp [smallD, smallA]⟩
  · split
    · exact ⟨by simp [PyData.depth, PyData.depthAll], by simp [smallD, smallA]⟩
    · exact ⟨by simp [PyData.depth, PyData.depthAll], by simp [smallD, smallA]⟩
theorem dp_intsW {K : PySem.W.Frag} {H : Hp} : ∀ l : List Int, DpAll K H (l.map V.int) (l.map PyData.int)
  | [] => .nil
  | x :: l => .cons (.int _) (dp_intsW l)
theorem st_updD {K : PySem.W.Frag} {H : Hp} {S : Sk} {D : Addr} {kvs : List (Key × V)} {o : HO} (h : St K H S) (n : D ≠ S.st) (hD : H D = some (.dK kvs)) : St K (upd H D o) S := by
  obtain ⟨h0, h1, a, m, c, h2, h3⟩ := h
  refine ⟨h0, ?_, a, m, c, by rw [upd_ne n.symm]; exact h2, h3⟩
  rcases h1 with (h | ⟨u, h⟩) | h
  · exact .inl (.inl (by rw [upd_ne (fun z => by rw [z, hD] at h; cases h)]; exact h))
  · exact .inl (.inr ⟨u, by rw [upd_ne (fun z => by rw [z, hD] at h; cases h)]; exact h⟩)
  · exact .inr h
theorem tabs_updD {T : List (Addr × Str)} {H : Hp} {D : Addr} {kvs : List (Key × V)} {o : HO} (h : LamX.Tabs T H) (hD : H D = some (.dK kvs)) : LamX.Tabs T (upd H D o) := fun p hp => by
  obtain ⟨ps, h1, h2, h3⟩ := h p hp
  refine ⟨ps, by rw [upd_ne (fun z => by rw [z, hD] at h1; cases h1)]; exact h1, h2, fun pos cv hc => ?_⟩
  obtain ⟨c, e1, e2⟩ := h3 pos cv hc
  exact ⟨c, e1, by rw [upd_ne (fun z => by rw [z, hD] at e2; unfold LamX.CodeO at e2; cases e2)]; exact e2⟩
def spLaw (K : PySem.W.Frag) (Pt : Addr) : Sp := fun vs H Q _ => ∃ (a : Addr) (ns : List Int), vs = [.ref a] ∧ SqL K H a (ns.map V.int) ∧ ns.length ≤ 63 ∧ H Pt = some (.tbl #[]) ∧ ∀ H', Q (.bl true) H'
/-- what is sorted of the three names -/
theorem sorted_three {ys : List Str} (hp : ys.Perm [mk Nt, mk BIGt, mk X1t]) (hs : sortedS ys = true) : ys = [mk BIGt, mk Nt, mk X1t] := by
  have hl := hp.length_eq
  match ys, hl with
  | [a, b, c], _ =>
    have ha : a = mk Nt ∨ a = mk BIGt ∨ a = mk X1t := by
      have := hp.mem_iff.mp (List.mem_cons_self .. : a ∈ [a, b, c])
      simpa using this
    have hb : b = mk Nt ∨ b = mk BIGt ∨ b = mk X1t := by
      have := hp.mem_iff.mp (List.mem_cons_of_mem _ (List.mem_cons_self ..) : b ∈ [a, b, c])
      simpa using this
    have hc : c = mk Nt ∨ c = mk BIGt ∨ c = mk X1t := by
      have := hp.mem_iff.mp (List.mem_cons_of_mem _ (List.mem_cons_of_mem _ (List.mem_cons_self ..)) : c ∈ [a, b, c])
      simpa using this
    have nd : [a, b, c].Nodup := hp.nodup_iff.mpr (by decide +kernel)
    rcases ha with rfl | rfl | rfl <;> rcases hb with rfl | rfl | rfl <;> rcases hc with rfl | rfl | rfl <;> first
      | rfl
      | exact absurd nd (by decide +kernel)
      | exact absurd hs (by decide +kernel)
theorem kv3_at (n b x : Int) (p : Tx) : valV [((.inr (mk Nt) : Key), V.int n), (.inr (mk BIGt), .int b), (.inr (mk X1t), .int x)] (.inr (mk p)) = (setN (setN (setN (fun _ => none) BIGt b) Nt n) X1t x p).map V.int := by
  have ne : ∀ {q : Tx} {v : V}, p ≠ q → ¬ (((.inr (mk q) : Key), v) : Key × V).1 = .inr (mk p) := fun h z => h (mk_inj (Sum.inr.inj z)).symm
  unfold setN
  by_cases c1 : p = X1t
  · subst c1
    rw [if_pos rfl, valV_neg (ne (by decide)), valV_neg (ne (by decide)), valV_pos rfl]
    rfl
  rw [if_neg c1]
  by_cases c2 : p = Nt
  · subst c2
    rw [if_pos rfl, valV_pos rfl]
    rfl
  rw [if_neg c2]
  by_cases c3 : p = BIGt
  · subst c3
    rw [if_pos rfl, valV_neg (ne (by decide)), valV_pos rfl]
    rfl
  rw [if_neg c3, valV_neg (ne c2), valV_neg (ne c3), valV_neg (ne c1)]
  rfl
theorem great_pick {r : Int} (h0 : 0 ≤ r) (h1 : r < 4) : ∃ l : Tx, atI [V.str "99999", V.str "-99999", V.str "-10000", V.str "10000"] r = some (.str (mk l)) ∧ SgT l ∧ l.length ≤ 6 := by
  have e : r = 0 ∨ r = 1 ∨ r = 2 ∨ r = 3 := by omega
  rcases e with rfl | rfl | rfl | rfl
  · exact ⟨sg "99999", atI_nat (j := 0) (by rw [mk_sg]; rfl), (by decide +kernel : ∀ c ∈ sg "99999", Sgn c), by decide +kernel⟩
  · exact ⟨sg "-99999", atI_nat (j := 1) (by rw [mk_sg]; rfl), (by decide +kernel : ∀ c ∈ sg "-99999", Sgn c), by decide +kernel⟩
  · exact ⟨sg "-10000", atI_nat (j := 2) (by rw [mk_sg]; rfl), (by decide +kernel : ∀ c ∈ sg "-10000", Sgn c), by decide +kernel⟩
  · exact ⟨sg "10000", atI_nat (j := 3) (by rw [mk_sg]; rfl), (by decide +kernel : ∀ c ∈ sg "10000", Sgn c), by decide +kernel⟩
theorem nought_pick {r : Int} (h0 : 0 ≤ r) (h1 : r < 2) : ∃ l : Tx, atI [V.str "0", V.str Str.empty] r = some (.str (mk l)) ∧ SgT l ∧ l.length ≤ 1 := by
  have e : r = 0 ∨ r = 1 := by omega
  rcases e with rfl | rfl
  · exact ⟨sg "0", atI_nat (j := 0) (by rw [mk_sg]; rfl), (by decide +kernel : ∀ c ∈ sg "0", Sgn c), by decide +kernel⟩
  · exact ⟨sg "", atI_nat (j := 1) (by rw [mk_sg]; rfl), (by decide +kernel : ∀ c ∈ sg "", Sgn c), by decide +kernel⟩
theorem end_pick {r : Int} (h0 : 0 ≤ r) (h1 : r < 3) : ∃ l : Tx, atI [V.str ">16", V.str "&255", V.str "+1>16"] r = some (.str (mk l)) ∧ SgT l ∧ l.length ≤ 5 := by
  have e : r = 0 ∨ r = 1 ∨ r = 2 := by omega
  rcases e with rfl | rfl | rfl
  · exact ⟨sg ">16", atI_nat (j := 0) (by rw [mk_sg]; rfl), (by decide +kernel : ∀ c ∈ sg ">16", Sgn c), by decide +kernel⟩
  · exact ⟨sg "&255", atI_nat (j := 1) (by rw [mk_sg]; rfl), (by decide +kernel : ∀ c ∈ sg "&255", Sgn c), by decide +kernel⟩
  · exact ⟨sg "+1>16", atI_nat (j := 2) (by rw [mk_sg]; rfl), (by decide +kernel : ∀ c ∈ sg "+1>16", Sgn c), by decide +kernel⟩
theorem setN_same (nm : Tx → Option Int) (p : Tx) (v : Int) : setN (setN nm p v) p v = setN nm p v := by
  funext q
  unfold setN
  split <;> rfl
theorem nmL_bil {b n x : Int} (hb : 0 ≤ b ∧ b < 65536) (hn : 0 ≤ n ∧ n < 9) (hx : -300 < x ∧ x ≤ 0) : ∀ p i, nmL b n x p = some i → Bil i := fun p i h => by
  unfold nmL setN at h
  unfold Bil
  repeat (first | (split at h; · (have := Option.some.inj h; omega)) | cases h)
theorem wSim_len {nm : Tx → Option Int} {r : Rw} {n : Nat} {ws : List Int} (h : wSim nm r n = .ok ws) : ws.length ≤ r.parts.length + 50 ∨ ws.length ≤ n := by
  refine .inl ?_
  have hs : ∀ (ps : List Tx) (ws : List Int), sumsW nm ps = .ok ws → ws.length = ps.length := fun ps => by
    induction ps with
    | nil => intro ws h; rw [sumsW] at h; cases h; rfl
    | cons p ps ih =>
      intro ws h
      rw [sumsW] at h
      split at h
      · cases h
      · split at h
        · cases h
        · rename_i js e
          cases h
          rw [List.length_cons, List.length_cons, ih js e]
  unfold wSim at h
  split at h
  · rw [hs _ _ h]; omega
  · cases h; exact Nat.zero_le _
abbrev N_law : List Str := ["_law_script", "_law_state", "_law_known", "_law_turn", "_law_great", "_law_change", "_law_due", "_law_ahead", "_law_text", "_law_name"]
theorem sc_law : FnScope ["_law_script", "_law_state", "_law_known", "_law_turn", "_law_great", "_law_change", "_law_due", "_law_ahead", "_law_text", "_law_name"] ["_law_script"] (defScope s_law) := ⟨rfl, rfl, rfl, by decide +kernel, rfl, by decide +kernel, by decide +kernel⟩
theorem ok_law {c Pt : Addr} (F : FunD K "law" "law" (defArgs s_law) (defBody s_law) (defScope s_law) dvs [] (He.fAd K ("law", none)) fd) (hc : He.cT K ("law", none) = (c, Pt)) (FK : FunD K "_law_kind" "_law_kind" (defArgs s__law_kind) (defBody s__law_kind) (defScope s__law_kind) [] [] (He.ga K "_law_kind") fk)
    (TB : LamX.TabB base mg c Pt) (KR : KindRw K) (g_MillError : mg "MillError" = some (.ref (He.ga K "MillError"))) (g_isinstance : mg "isinstance" = none) (g_ValueError : mg "ValueError" = none)
    (g_BadDeed : mg "BadDeed" = some (.ref (He.ga K "BadDeed"))) (g_BadReach : mg "BadReach" = some (.ref (He.ga K "BadReach"))) (g_NoDeed : mg "NoDeed" = some (.ref (He.ga K "NoDeed"))) (g_BadCount : mg "BadCount" = some (.ref (He.ga K "BadCount"))) (g_NoMend : mg "NoMend" = some (.ref (He.ga K "NoMend")))
    (g_BadImage : mg "BadImage" = some (.ref (He.ga K "BadImage"))) (g_BadGiven : mg "BadGiven" = some (.ref (He.ga K "BadGiven"))) (g_BadList : mg "BadList" = some (.ref (He.ga K "BadList"))) (g_BadRow : mg "BadRow" = some (.ref (He.ga K "BadRow")))
    (g__law_kind : mg "_law_kind" = some (.ref (He.ga K "_law_kind")))
    (k__law_start : Kn P w K mg base CX0 1 "_law_start" ["_law_script"] [] (spStart K)) (k__law_drawn : KnDrw P w K mg base) (k__law_same : Kn P w K mg base CX0 3 "_law_same" ["_law_found", "_law_due"] [] (spSame K 3)) (k__law_some_sum : KnSome P w K mg base) (k__law_spoilt : KnSpoil P w K mg base) (k__law_sum : KnLSum P w K mg base) (k_assembled : KnAsm P w K mg base wSim okSim)
    (g_sorted : mg "sorted" = none) (g_str : mg "str" = none) (g_range : mg "range" = none) (g_len : mg "len" = none) (g_list : mg "list" = none) (g_int : mg "int" = none) : FnOk P w K mg base CX0 12 (He.fAd K ("law", none)) fd ["_law_script"] (spLaw K Pt) := by
  obtain ⟨oc, od, dV, kV, doc, pm, an, cdv, ct, osl, rfl, lk, hcd, _, _⟩ := F.ex
  obtain ⟨c', rfl⟩ := He.codeIn_ref hcd
  have ec : He.codeOf K ("law", none) = c' := He.codeOf_eq lk rfl
  have ec2 : c = c' := by
    rw [← ec]
    exact (congrArg Prod.fst hc).symm
  subst ec2
  have kkp := FK.kp
  have kbn : L2.Binds K fk ["_law_work"] [] := FK.bindsN fun _ _ _ _ _ _ us hl => match us, hl with | [_], _ => rfl
  obtain ⟨oc2, od2, dV2, kV2, doc2, pm2, an2, cdv2, ct2, osl2, rfl, klk, khc, _, _⟩ := FK.ex
  refine fn_of lk hcd sc_law (fun vs H Q E h => ?_) (fun A outer s H vs Q E hr h => ?_)
  · obtain ⟨a, ns, rfl, _⟩ := h
    rfl
  · obtain ⟨a, ns, rfl, hS, h63, hP, q⟩ := h
    let X0 : Cx := (cxOf CX0 P w K mg base N_law "law" (defScope s_law) (He.fAd K ("law", none)) (.ref c) A outer s H E).nox
    let TL : List (Addr × Str) := [(Pt, X0.env.qual ++ "<lambda>")]
    have hmT : (Pt, X0.env.qual ++ "<lambda>") ∈ TL := List.mem_cons_self ..
    have huT : ∀ p ∈ TL, p.1 = Pt → p.2 = X0.env.qual ++ "<lambda>" := fun p hp _ => by rw [List.mem_singleton.mp hp]
    have hG : LamX.GivesTo X0 N__law_kind "_law_kind" (defScope s__law_kind) (He.ga K "_law_kind") cdv2 (defBody s__law_kind) "_law_work" (X0.env.qual ++ "<lambda>") (TKindR K) :=
      kind_givesR (X := X0) KR g_MillError g_isinstance g_ValueError g_BadDeed g_BadReach g_NoDeed g_BadCount g_NoMend g_BadImage g_BadGiven g_BadList g_BadRow
    have T0 : LamX.Tabs TL H := fun p hp => by
      rw [List.mem_singleton.mp hp]
      exact LamX.TabS.nil hP
    refine ⟨_, PSs.nox (pss_cons (ps_set (i := 1) sc_law.nd rfl (Or.inl rfl) (pk k__law_start hr (by decide) rfl pass0 (pa_cons (pv 0) pa_nil)))
      (pss_cons (ps_set (i := 2) sc_law.nd rfl (Or.inr rfl) (pe_disp (L2.pps_cons pe_str (pk k__law_drawn hr (by decide) rfl pass0 (pa_cons (pv 1) (pa_cons pe_int pa_nil))) (L2.pps_cons pe_str (pk k__law_drawn hr (by decide) rfl pass0 (pa_cons (pv 1) (pa_cons pe_int pa_nil))) (L2.pps_cons pe_str (pe_op op_sub pe_int (pk k__law_drawn hr (by decide) rfl pass0 (pa_cons (pv 1) (pa_cons pe_int pa_nil)))) L2.pps_nil))) rfl rfl (fun z => by cases z) (by decide)))
      (pss_cons (ps_set (i := 7) sc_law.nd rfl (Or.inr rfl) (pe_bm PySem.F.plainAttrs_str PySem.F.slot_str_join PySem.F.type_str_join mt_join pe_str (pa_cons (pe_lc (own := [("_law_name", 9)]) (g := gName 9) rfl sc_law.nd (pi_list (pe_callB (call_sortedD rfl) rfl g_sorted (by decide +kernel) (pa_cons (pv 2) pa_nil))) (blkOk_by (own := [("_law_name", 9)]) (N := N_law) (sc := defScope s_law) (by decide +kernel)) (fun _ _ _ _ _ => (pg_name (i := 9) sc_law.nd rfl (Or.inl rfl))) (fun _ _ _ _ _ => pts_nil) (fun _ _ _ _ _ => (pe_op op_add_str (pe_op op_add_str (pe_op op_add_str (pe_op op_add_str pe_str (pv 9)) pe_str) (pe_callTy call_str_int rfl g_str (by decide +kernel) (pa_cons (pe_dget (hu_of hr) (pv 2) (pv 9) (fun _ _ => rfl)) pa_nil))) pe_str))) pa_nil)))
      (pss_cons (ps_for PassesOwn.never rfl (pi_range1 rfl g_range (pa_cons pe_int pa_nil)) (pg_name (i := 3) sc_law.nd rfl (Or.inl rfl))
      (pss_cons (ps_set (i := 8) sc_law.nd rfl (Or.inr rfl) (pk k__law_some_sum hr (by decide) rfl pass0 (pa_cons (pv 1) (pa_cons (pe_lst (pa_cons pe_str (pa_cons pe_str (pa_cons pe_str pa_nil)))) pa_nil))))
      (pss_cons (ps_if (pt_cmpR op_eq (pk k__law_drawn hr (by decide) rfl pass0 (pa_cons (pv 1) (pa_cons pe_int pa_nil))) pe_int (nomark _)) (pss_cons (ps_set (i := 4) sc_law.nd rfl (Or.inl rfl) (pe_op op_add_str (pe_op op_add_str (pe_ix ix_list (pe_lst (pa_cons pe_str (pa_cons pe_str (pa_cons pe_str (pa_cons pe_str pa_nil))))) (pk k__law_drawn hr (by decide) rfl pass0 (pa_cons (pv 1) (pa_cons pe_int pa_nil))) (fun _ _ => rfl)) pe_str) (pe_callTy call_str_int rfl g_str (by decide +kernel) (pa_cons (pk k__law_drawn hr (by decide) rfl pass0 (pa_cons (pv 1) (pa_cons pe_int pa_nil))) pa_nil))))
      (pss_one (ps_set (i := 8) sc_law.nd rfl (Or.inr rfl) (pe_op op_add_str (pe_op op_add_str (pv 4) (pe_ix ix_list (pe_lst (pa_cons pe_str (pa_cons pe_str pa_nil))) (pk k__law_drawn hr (by decide) rfl pass0 (pa_cons (pv 1) (pa_cons pe_int pa_nil))) (fun _ _ => rfl))) (pe_ix ix_list (pe_lst (pa_cons pe_str (pa_cons pe_str (pa_cons pe_str pa_nil)))) (pk k__law_drawn hr (by decide) rfl pass0 (pa_cons (pv 1) (pa_cons pe_int pa_nil))) (fun _ _ => rfl)))))) pss_nil)
      (pss_cons (ps_for PassesOwn.never rfl (pi_range1 rfl g_range (pa_cons (pk k__law_drawn hr (by decide) rfl pass0 (pa_cons (pv 1) (pa_cons pe_int pa_nil))) pa_nil)) (pg_name (i := 5) sc_law.nd rfl (Or.inl rfl))
      (pss_one (ps_set (i := 8) sc_law.nd rfl (Or.inr rfl) (pk k__law_spoilt hr (by decide) rfl pass0 (pa_cons (pv 1) (pa_cons (pv 8) pa_nil))))))
      (pss_cons (ps_asg pe_int (pg_sub (pv 2) pe_str (set_dict (hu_of hr))))
      (pss_cons (ps_set (i := 6) sc_law.nd rfl (Or.inl rfl) (pk k__law_sum hr (by decide) rfl pass0 (pa_cons (pv 8) (pa_cons (pv 2) pa_nil))))
      (pss_cons (ps_if (pt_not (pt_val (pe_callB call_isi rfl g_isinstance (by decide +kernel) (pa_cons (pv 6) (pa_cons (pe_bltn (v := .ty "str") rfl g_str (by decide +kernel) rfl) pa_nil))))) (pss_one (ps_set (i := 6) sc_law.nd rfl (Or.inl rfl) (pe_ifExp (pt_chain op_le op_lt (pe_op op_sub pe_int pe_int) (pv 6) pe_int) (pe_tup (pa_cons pe_int (pa_cons (pe_op op_modN (pv 6) pe_int) pa_nil))) pe_str))) pss_nil)
      (pss_cons (ps_set (i := 6) sc_law.nd rfl (Or.inl rfl) (pe_ifExp (pt_val (pe_callB call_isi rfl g_isinstance (by decide +kernel) (pa_cons (pv 6) (pa_cons (pe_bltn (v := .ty "str") rfl g_str (by decide +kernel) rfl) pa_nil)))) (pe_tup (pa_cons pe_str (pa_cons pe_int (pa_cons (pv 6) pa_nil)))) (pv 6)))
      (pss_cons (ps_set (i := 6) sc_law.nd rfl (Or.inl rfl) (pe_ifExp (pt_cmpR op_eq (pe_bm0 PySem.F.plainAttrs_str PySem.F.slot_str_strip PySem.F.type_str_strip mt_strip (pv 8)) pe_str (nomark _)) (pe_tup (pa_cons pe_str (pa_cons pe_int (pa_cons pe_str pa_nil)))) (pv 6)))
      (pss_one (ps_if (pt_not (pt_val (pk k__law_same hr (by decide) rfl pass0 (pa_cons (LamX.pe_lamcall (T := TL) (TT := TKindR K) rfl g__law_kind kkp klk khc kbn sc__law_kind rfl (Or.inl rfl) hG TB rfl hmT huT hr (LamX.lamS_by (show LamX.lamSB (defScope s_law) _ = true by decide +kernel)) rfl (fun _ _ _ _ _ => rfl) (fun A2 outer2 s2 H2 E2 f2 c2 hr2 => (pk k_assembled hr2 (by decide) rfl passL (pa_cons (pe_op op_add_str (pe_op op_add_str (pe_var (i := 7) rfl (Or.inr (Or.inr rfl))) pe_str) (pe_var (i := 8) rfl (Or.inr (Or.inr rfl)))) pa_nil)))) (pa_cons (pv 6) pa_nil))))) (pss_one (ps_ret pe_bl)) pss_nil)))))))))))
      (pss_one (ps_ret pe_bl)))))), ?_⟩
    refine sqT ?_
    refine ⟨_, rfl, a, ns, rfl, hS, h63, fun st H1 hst0 s1 hst => ?_⟩
    obtain ⟨S, rfl, rfl, rfl⟩ : ∃ S : Sk, S.st = st ∧ S.sc = a ∧ S.ns = ns := ⟨⟨st, a, ns⟩, rfl, rfl, rfl⟩
    have hst : St K H1 S := hst
    have T1 := LamX.Tabs.ext T0 s1
    dsimp only [gName, List.set]
    refine sqT ?_
    refine fun D hD => ?_
    have nDs : D ≠ S.st := by
      obtain ⟨z, hz⟩ := hst.lst
      exact ne_of_free hz hD
    have nD1 : H1 D = none := hD
    have s2 : Same H1 (upd H1 D (.dK [])) := Same.add hD
    have e2 : (upd H1 D (.dK [])) D = some (.dK []) := upd_same
    generalize upd H1 D (.dK []) = H2 at s2 e2 ⊢
    have k2 := (Kp.refl hst).same s2
    refine ⟨_, rfl, S, 9, rfl, k2.st, by decide, by decide, fun n H3 n0 n1 k3 => ⟨_, rfl, S, 65536, rfl, k3.st, by decide, by decide, fun b H4 b0 b1 k4 => ⟨_, rfl, S, 300, rfl, k4.st, by decide, by decide, fun x H5 x0 x1 k5 => ⟨_, _, rfl, rfl, k5.but _ _ nDs (k4.but _ _ nDs (k3.but _ _ nDs e2)), [(.inr "n", .int n), (.inr "big", .int b), (.inr "x1", .int (0 - x))], rfl, (show 3 ≤ 15 by decide), ?_⟩⟩⟩⟩
    have k15 := k2.trans (k3.trans (k4.trans k5))
    have eM : mergeK [] [(.inr "n", .int n), (.inr "big", .int b), (.inr "x1", .int (0 - x))] = [((.inr (mk Nt) : Key), V.int n), (.inr (mk BIGt), .int b), (.inr (mk X1t), .int (0 - x))] := by
      show putK (putK (putK [] (.inr (mk Nt) : Key) (.int n)) (.inr (mk BIGt) : Key) (.int b)) (.inr (mk X1t) : Key) (.int (0 - x)) = _
      have q1 : putK [] (.inr (mk Nt) : Key) (V.int n) = [((.inr (mk Nt) : Key), V.int n)] := rfl
      have ne : ∀ p q : Tx, p ≠ q → ¬ (.inr (mk p) : Key) = .inr (mk q) := fun p q h z => h (mk_inj (Sum.inr.inj z))
      have q2 : putK [((.inr (mk Nt) : Key), V.int n)] (.inr (mk BIGt) : Key) (.int b) = [((.inr (mk Nt) : Key), V.int n), (.inr (mk BIGt), .int b)] := putK_new _ (by rw [valV_neg (ne Nt BIGt (by decide))]; rfl)
      have q3 : putK [((.inr (mk Nt) : Key), V.int n), (.inr (mk BIGt), .int b)] (.inr (mk X1t) : Key) (.int (0 - x)) = [((.inr (mk Nt) : Key), V.int n), (.inr (mk BIGt), .int b), (.inr (mk X1t), .int (0 - x))] := putK_new _ (by rw [valV_neg (ne Nt X1t (by decide)), valV_neg (ne BIGt X1t (by decide))]; rfl)
      rw [q1, q2, q3]
    rw [eM]
    have kD := k15.mut (p := D) (o := .dK [((.inr (mk Nt) : Key), V.int n), (.inr (mk BIGt), .int b), (.inr (mk X1t), .int (0 - x))]) nD1
    have eD : Rd (upd H5 D (.dK [((.inr (mk Nt) : Key), V.int n), (.inr (mk BIGt), .int b), (.inr (mk X1t), .int (0 - x))])) D (.dK [((.inr (mk Nt) : Key), V.int n), (.inr (mk BIGt), .int b), (.inr (mk X1t), .int (0 - x))]) := .inl upd_same
    dsimp only [gName, List.set]
    refine sqT ?_
    refine ⟨rfl, _, rfl, D, _, [mk Nt, mk BIGt, mk X1t], rfl, eD, rfl, (by decide), fun ys B hp hs hB => ?_⟩
    rw [sorted_three hp hs]
    have eB : (upd (upd H5 D (.dK [((.inr (mk Nt) : Key), V.int n), (.inr (mk BIGt), .int b), (.inr (mk X1t), .int (0 - x))])) B (.lst ([mk BIGt, mk Nt, mk X1t].map V.str))) B = some (.lst ([mk BIGt, mk Nt, mk X1t].map V.str)) := upd_same
    refine ⟨B, rfl, ⟨_, SqL.of eB⟩, fun R hR => ?_⟩
    have nR := hR
    have nBD : B ≠ D := fun z => by
      have hB : upd H5 D (HO.dK [((.inr (mk Nt) : Key), V.int n), (.inr (mk BIGt), .int b), (.inr (mk X1t), .int (0 - x))]) B = none := hB
      rw [z, upd_same] at hB
      cases hB
    have eD7 : (upd (upd H5 D (.dK [((.inr (mk Nt) : Key), V.int n), (.inr (mk BIGt), .int b), (.inr (mk X1t), .int (0 - x))])) B (.lst ([mk BIGt, mk Nt, mk X1t].map V.str))) D = some (.dK [((.inr (mk Nt) : Key), V.int n), (.inr (mk BIGt), .int b), (.inr (mk X1t), .int (0 - x))]) := (upd_ne nBD.symm).trans upd_same
    generalize hH7 : upd (upd H5 D (.dK [((.inr (mk Nt) : Key), V.int n), (.inr (mk BIGt), .int b), (.inr (mk X1t), .int (0 - x))])) B (.lst ([mk BIGt, mk Nt, mk X1t].map V.str)) = H7 at *
    refine lc_it walk_list (fun i G1 => Same H7 G1 ∧ G1 R = some (.lst (vTx ((([(BIGt, b), (Nt, n), (X1t, 0 - x)] : List (Tx × Int)).take i).map fun p => letRow p.1 p.2 ++ [10])))) ⟨Same.add hR, upd_same⟩ (fun _ G1 _ h1 => h1.1.seq (SqL.of eB)) ?_ ?_
    · rintro i y G1 G' hi ⟨s1', r1⟩ ⟨rfl, hz⟩
      have gD : Rd G' D (.dK [((.inr (mk Nt) : Key), V.int n), (.inr (mk BIGt), .int b), (.inr (mk X1t), .int (0 - x))]) := .inl (s1' _ _ eD7)
      match i, hi, hz, r1 with
      | 0, _, hz, r1 =>
        have hz : y = V.str (mk BIGt) := (Option.some.inj hz).symm
        subst hz
        refine ⟨rfl, _, rfl, _, _, rfl, rfl, (by decide +kernel), _, _, rfl, rfl, (by decide +kernel), _, rfl, _, rfl, D, .int b, rfl, ?dg, b, rfl, ?lg, _, _, rfl, rfl, ?l1, _, _, rfl, rfl, ?l2, _, r1, line5 (by simp [vTx]), Same.mut s1' nR, ?eq⟩
        case dg => exact .inl ⟨_, .inr (mk BIGt), gD, rfl, ((valV_neg (p := ((.inr (mk Nt) : Key), V.int n)) (k := .inr (mk BIGt)) (fun z => absurd (mk_inj (Sum.inr.inj z)) (by decide))).trans (valV_pos (p := ((.inr (mk BIGt) : Key), V.int b)) rfl)).symm⟩
        case lg => exact small_lg (n := b.natAbs) (by omega)
        case l1 =>
          have hb6 := decT_len (i := b) (by omega)
          rw [int_mk b, show ((".let " : Str) ++ mk BIGt ++ ", ") = mk (LETt ++ 32 :: (BIGt ++ [44, 32])) by decide +kernel, mk_len, mk_len]
          exact Nat.le_of_lt (lineT (by show 10 + (decT b).length ≤ 200000; omega))
        case l2 =>
          have hb6 := decT_len (i := b) (by omega)
          rw [int_mk b, show ((".let " : Str) ++ mk BIGt ++ ", ") = mk (LETt ++ 32 :: (BIGt ++ [44, 32])) by decide +kernel, mk_app, show ("\n" : Str) = mk [10] by decide +kernel, mk_len, mk_len]
          exact Nat.le_of_lt (lineT (by rw [List.length_append]; show 10 + (decT b).length + 1 ≤ 200000; omega))
        case eq =>
          rw [upd_same, int_mk b, show ((".let " : Str) ++ mk BIGt ++ ", ") = mk (LETt ++ 32 :: (BIGt ++ [44, 32])) by decide +kernel, mk_app, show ("\n" : Str) = mk [10] by decide +kernel, mk_app]
          rfl
      | 1, _, hz, r1 =>
        have hz : y = V.str (mk Nt) := (Option.some.inj hz).symm
        subst hz
        refine ⟨rfl, _, rfl, _, _, rfl, rfl, (by decide +kernel), _, _, rfl, rfl, (by decide +kernel), _, rfl, _, rfl, D, .int n, rfl, ?dg, n, rfl, ?lg, _, _, rfl, rfl, ?l1, _, _, rfl, rfl, ?l2, _, r1, line5 (by simp [vTx]), Same.mut s1' nR, ?eq⟩
        case dg => exact .inl ⟨_, .inr (mk Nt), gD, rfl, (valV_pos (p := ((.inr (mk Nt) : Key), V.int n)) rfl).symm⟩
        case lg => exact small_lg (n := n.natAbs) (by omega)
        case l1 =>
          have hb6 := decT_len (i := n) (by omega)
          rw [int_mk n, show ((".let " : Str) ++ mk Nt ++ ", ") = mk (LETt ++ 32 :: (Nt ++ [44, 32])) by decide +kernel, mk_len, mk_len]
          exact Nat.le_of_lt (lineT (by show 8 + (decT n).length ≤ 200000; omega))
        case l2 =>
          have hb6 := decT_len (i := n) (by omega)
          rw [int_mk n, show ((".let " : Str) ++ mk Nt ++ ", ") = mk (LETt ++ 32 :: (Nt ++ [44, 32])) by decide +kernel, mk_app, show ("\n" : Str) = mk [10] by decide +kernel, mk_len, mk_len]
          exact Nat.le_of_lt (lineT (by rw [List.length_append]; show 8 + (decT n).length + 1 ≤ 200000; omega))
        case eq =>
          rw [upd_same, int_mk n, show ((".let " : Str) ++ mk Nt ++ ", ") = mk (LETt ++ 32 :: (Nt ++ [44, 32])) by decide +kernel, mk_app, show ("\n" : Str) = mk [10] by decide +kernel, mk_app]
          rfl
      | 2, _, hz, r1 =>
        have hz : y = V.str (mk X1t) := (Option.some.inj hz).symm
        subst hz
        refine ⟨rfl, _, rfl, _, _, rfl, rfl, (by decide +kernel), _, _, rfl, rfl, (by decide +kernel), _, rfl, _, rfl, D, .int (0 - x), rfl, ?dg, (0 - x), rfl, ?lg, _, _, rfl, rfl, ?l1, _, _, rfl, rfl, ?l2, _, r1, line5 (by simp [vTx]), Same.mut s1' nR, ?eq⟩
        case dg => exact .inl ⟨_, .inr (mk X1t), gD, rfl, ((valV_neg (p := ((.inr (mk Nt) : Key), V.int n)) (k := .inr (mk X1t)) (fun z => absurd (mk_inj (Sum.inr.inj z)) (by decide))).trans ((valV_neg (p := ((.inr (mk BIGt) : Key), V.int (0 - x))) (k := .inr (mk X1t)) (fun z => absurd (mk_inj (Sum.inr.inj z)) (by decide))).trans (valV_pos (p := ((.inr (mk X1t) : Key), V.int (0 - x))) rfl))).symm⟩
        case lg => exact small_lg (n := (0 - x).natAbs) (by omega)
        case l1 =>
          have hb6 := decT_len (i := (0 - x)) (by omega)
          rw [int_mk (0 - x), show ((".let " : Str) ++ mk X1t ++ ", ") = mk (LETt ++ 32 :: (X1t ++ [44, 32])) by decide +kernel, mk_len, mk_len]
          exact Nat.le_of_lt (lineT (by show 9 + (decT (0 - x)).length ≤ 200000; omega))
        case l2 =>
          have hb6 := decT_len (i := (0 - x)) (by omega)
          rw [int_mk (0 - x), show ((".let " : Str) ++ mk X1t ++ ", ") = mk (LETt ++ 32 :: (X1t ++ [44, 32])) by decide +kernel, mk_app, show ("\n" : Str) = mk [10] by decide +kernel, mk_len, mk_len]
          exact Nat.le_of_lt (lineT (by rw [List.length_append]; show 9 + (decT (0 - x)).length + 1 ≤ 200000; omega))
        case eq =>
          rw [upd_same, int_mk (0 - x), show ((".let " : Str) ++ mk X1t ++ ", ") = mk (LETt ++ 32 :: (X1t ++ [44, 32])) by decide +kernel, mk_app, show ("\n" : Str) = mk [10] by decide +kernel, mk_app]
          rfl
    rintro G1 ⟨s7, r7⟩
    have r7 : G1 R = some (.lst (List.map V.str ([letRow BIGt b ++ [10], letRow Nt n ++ [10], letRow X1t (0 - x) ++ [10]].map mk))) := r7
    refine ⟨_, R, _, rfl, rfl, .inl (SqL.of r7), ?bd, ?_⟩
    case bd =>
      have l1 := decT_len (i := b) (by omega)
      have l2 := decT_len (i := n) (by omega)
      have l3 := decT_len (i := 0 - x) (by omega)
      show (mk _).length + ((mk _).length + ((mk _).length + 0)) + 3 * 0 ≤ 16777216
      rw [mk_len, mk_len, mk_len]
      have m1 : (letRow BIGt b).length = 10 + (decT b).length := by unfold letRow LETt BIGt; simp only [List.length_append, List.length_cons, List.length_nil]; omega
      have m2 : (letRow Nt n).length = 8 + (decT n).length := by unfold letRow LETt Nt; simp only [List.length_append, List.length_cons, List.length_nil]; omega
      have m3 : (letRow X1t (0 - x)).length = 9 + (decT (0 - x)).length := by unfold letRow LETt X1t; simp only [List.length_append, List.length_cons, List.length_nil]; omega
      rw [List.length_append, List.length_append, List.length_append, m1, m2, m3, List.length_singleton]
      omega
    rw [show ("" : Str) = Str.empty from rfl, join_empty_mk]
    obtain ⟨AH, eAH⟩ : ∃ AH : Tx, AH = letRow BIGt b ++ 10 :: (letRow Nt n ++ 10 :: (letRow X1t (0 - x) ++ [10])) := ⟨_, rfl⟩
    rw [show ([letRow BIGt b ++ [10], letRow Nt n ++ [10], letRow X1t (0 - x) ++ [10]] : List Tx).flatten = AH by rw [eAH]; simp]
    have kG1 : Kp K S H1 G1 := Kp.same (by rw [← hH7]; exact Kp.add kD hB) s7
    have gD1 := s7 _ _ eD7
    have TG1 : LamX.Tabs TL G1 := tabs_kp T1 kG1
    clear r7 s7 eD7 kD eD k15 k5 k4 k3 k2 e2 s2
    dsimp only [gName, List.set]
    refine sqT ?_
    refine ⟨_, rfl, by decide, by decide, for_range (n := 8) (fun m σ G => ∃ (kvs : List (Key × V)) (nm : Tx → Option Int) (v3 v4 v5 v6 v8 : Option V), σ = [some (.ref S.sc), some (.ref S.st), some (.ref D), v3, v4, v5, v6, some (.str (mk AH)), v8, none] ∧ St K G S ∧ LamX.Tabs TL G ∧ G D = some (.dK kvs) ∧ kvs.length ≤ 3 + m ∧ (∀ p, valV kvs (.inr (mk p)) = (nm p).map V.int) ∧ setN nm HERE 1 = nmL b n (0 - x)) ⟨_, _, none, none, none, none, none, rfl, kG1.st, TG1, gD1, Nat.le_refl _, kv3_at n b (0 - x), rfl⟩ ?_ ?_⟩
    rotate_left
    · rintro σ G ⟨kvs, nm, v3, v4, v5, v6, v8, rfl, _⟩
      exact q G
    rintro m σ G hm ⟨kvs, nm, v3, v4, v5, v6, v8, rfl, stG, TG, gD, hkl, hkv, hnm⟩
    have kG := Kp.refl stG
    have hm : m < 8 := hm
    dsimp only [gName, List.set]
    refine sqT ?_
    refine ⟨_, rfl, line5 (by simp), fun L1 hL1 => ?_⟩
    have nL1 : L1 ≠ S.st := by
      obtain ⟨z, hz⟩ := kG.st.lst
      exact ne_of_free hz hL1
    have sa : Same G (upd G L1 (.lst [V.str "n", V.str "big", V.str "X1"])) := Same.add hL1
    have ea : (upd G L1 (.lst [V.str "n", V.str "big", V.str "X1"])) L1 = some (.lst [V.str "n", V.str "big", V.str "X1"]) := upd_same
    generalize upd G L1 (.lst [V.str "n", V.str "big", V.str "X1"]) = Ga at sa ea ⊢
    have ka := kG.same sa
    refine ⟨S, L1, [Nt, BIGt, [88, 49]], rfl, ka.st, ea, nL1, ?ks, by decide, fun l0 Gb kb hl0 hl0n => ?_⟩
    case ks =>
      intro k hk
      simp only [List.mem_cons, List.not_mem_nil, or_false] at hk
      rcases hk with rfl | rfl | rfl
      · exact ⟨(by decide : ∀ c ∈ Nt, Sgn c), by decide⟩
      · exact ⟨(by decide : ∀ c ∈ BIGt, Sgn c), by decide⟩
      · exact ⟨(by decide : ∀ c ∈ ([88, 49] : Tx), Sgn c), by decide⟩
    have kab := (Kp.refl kG.st).same sa |>.trans kb
    dsimp only [gName, List.set]
    refine sqT ?_
    refine ifJ (fun σ' G' => ∃ (v4 : Option V) (l : Tx), σ' = [some (.ref S.sc), some (.ref S.st), some (.ref D), some (.int (0 + (m : Nat))), v4, v5, v6, some (.str (mk AH)), some (.str (mk l)), none] ∧ Kp K S G G' ∧ SgT l ∧ l.length ≤ 60) ?_ (fun key => ?_)
    rotate_left
    · refine ⟨_, rfl, S, 5, rfl, kab.st, by decide, by decide, fun r Gc r0 r1 kc => ?_⟩
      refine ⟨rfl, _, rfl, ?_⟩
      have kc0 := kab.trans kc
      by_cases c0 : r = 0
      · refine itT (decide_eq_true (by rw [c0])) ?_
        refine sqT ?_
        refine ⟨line5 (by simp), fun L2 hL2 => ?_⟩
        have nL2 : L2 ≠ S.st := by
          obtain ⟨z, hz⟩ := kc0.st.lst
          exact ne_of_free hz hL2
        have sd : Same Gc (upd Gc L2 (.lst [V.str "99999", V.str "-99999", V.str "-10000", V.str "10000"])) := Same.add hL2
        have ed : (upd Gc L2 (.lst [V.str "99999", V.str "-99999", V.str "-10000", V.str "10000"])) L2 = some (.lst [V.str "99999", V.str "-99999", V.str "-10000", V.str "10000"]) := upd_same
        generalize upd Gc L2 (.lst [V.str "99999", V.str "-99999", V.str "-10000", V.str "10000"]) = Gd at sd ed ⊢
        have kd0 := kc0.same sd
        refine ⟨_, rfl, S, 4, rfl, kd0.st, by decide, by decide, fun r4 Ge r40 r41 ke => ?_⟩
        obtain ⟨p4, hp4, sp4, lp4⟩ := great_pick r40 r41
        have ke0 := kd0.trans ke
        refine ⟨L2, _, _, _, rfl, rfl, SqL.of (ke.but _ _ nL2 ed), hp4, ?_⟩
        have e1000 : ("*1000" : Str) = mk (sg "*1000") := (mk_sg _).symm
        have l1000 : (sg "*1000").length = 5 := by decide +kernel
        have s1000 : SgT (sg "*1000") := (by decide +kernel : ∀ c ∈ sg "*1000", Sgn c)
        rw [e1000]
        refine ⟨_, _, rfl, rfl, (by rw [mk_len, mk_len]; exact Nat.le_of_lt (lineT (by omega))), ?_⟩
        refine ⟨_, rfl, S, 3, rfl, ke0.st, by decide, by decide, fun r3 Gf r30 r31 kf => ?_⟩
        obtain ⟨n3, rfl⟩ := Int.eq_ofNat_of_zero_le r30
        have kf0 := ke0.trans kf
        have l3 := decT_len (i := (n3 : Int)) (by omega)
        have s3 : SgT (decT (n3 : Int)) := int_sgn _
        refine ⟨_, rfl, small_lg (by omega), ?_⟩
        rw [mk_app, int_mk (n3 : Int)]
        refine ⟨_, _, rfl, rfl, (by rw [mk_len]; show _ + (mk (decT (n3 : Int))).length ≤ _; rw [mk_len, List.length_append]; exact Nat.le_of_lt (lineT (by omega))), ?_⟩
        rw [mk_app]
        dsimp only [gName, List.set]
        refine ⟨_, rfl, line5 (by simp), fun L3 hL3 => ?_⟩
        have nL3 : L3 ≠ S.st := by
          obtain ⟨z, hz⟩ := kf0.st.lst
          exact ne_of_free hz hL3
        have sg_ : Same Gf (upd Gf L3 (.lst [V.str "0", V.str Str.empty])) := Same.add hL3
        have eg : (upd Gf L3 (.lst [V.str "0", V.str Str.empty])) L3 = some (.lst [V.str "0", V.str Str.empty]) := upd_same
        generalize upd Gf L3 (.lst [V.str "0", V.str Str.empty]) = Gg at sg_ eg ⊢
        have kg0 := kf0.same sg_
        refine ⟨_, rfl, S, 2, rfl, kg0.st, by decide, by decide, fun r2 Gh r20 r21 kh => ?_⟩
        obtain ⟨p2, hp2, sp2, lp2⟩ := nought_pick r20 r21
        have kh0 := kg0.trans kh
        refine ⟨L3, _, _, _, rfl, rfl, SqL.of (kh.but _ _ nL3 eg), hp2, ?_⟩
        refine ⟨_, _, rfl, rfl, (by rw [mk_len, mk_len, List.length_append, List.length_append]; show _ + (decT (n3 : Int)).length + _ ≤ _; exact Nat.le_of_lt (lineT (by omega))), ?_⟩
        rw [mk_app]
        refine ⟨line5 (by simp), fun L4 hL4 => ?_⟩
        have nL4 : L4 ≠ S.st := by
          obtain ⟨z, hz⟩ := kh0.st.lst
          exact ne_of_free hz hL4
        have si : Same Gh (upd Gh L4 (.lst [V.str ">16", V.str "&255", V.str "+1>16"])) := Same.add hL4
        have ei : (upd Gh L4 (.lst [V.str ">16", V.str "&255", V.str "+1>16"])) L4 = some (.lst [V.str ">16", V.str "&255", V.str "+1>16"]) := upd_same
        generalize upd Gh L4 (.lst [V.str ">16", V.str "&255", V.str "+1>16"]) = Gi at si ei ⊢
        have ki0 := kh0.same si
        refine ⟨_, rfl, S, 3, rfl, ki0.st, by decide, by decide, fun r5 Gj r50 r51 kj => ?_⟩
        obtain ⟨p5, hp5, sp5, lp5⟩ := end_pick r50 r51
        refine ⟨L4, _, _, _, rfl, rfl, SqL.of (kj.but _ _ nL4 ei), hp5, ?_⟩
        refine ⟨_, _, rfl, rfl, (by rw [mk_len, mk_len, List.length_append, List.length_append, List.length_append]; show _ + (decT (n3 : Int)).length + _ + _ ≤ _; exact Nat.le_of_lt (lineT (by omega))), ?_⟩
        rw [mk_app]
        refine key _ _ ⟨_, _, rfl, ki0.trans kj, (((sp4.app s1000).app s3).app sp2).app sp5, ?_⟩
        rw [List.length_append, List.length_append, List.length_append, List.length_append]
        show _ + (decT (n3 : Int)).length + _ + _ ≤ _
        omega
      · exact itF (decide_eq_false (fun e => c0 (V.int.inj e))) (key _ _ ⟨_, _, rfl, kc0, hl0, hl0n⟩)
    rintro σ' Gc ⟨v4, l1, rfl, kc, hl1, hl1n⟩
    dsimp only
    refine sqT ?_
    have kcG := kG.trans kc
    refine ⟨_, rfl, S, 3, rfl, kc.st, by decide, by decide, fun r Gd r0 r1 kd => ?_⟩
    obtain ⟨rn, rfl⟩ := Int.eq_ofNat_of_zero_le r0
    have kd0 := kcG.trans kd
    refine ⟨_, rfl, by omega, by omega, for_range (n := (rn : Int).toNat) (fun i σ' G' => ∃ (v5 : Option V) (l : Tx), σ' = [some (.ref S.sc), some (.ref S.st), some (.ref D), some (.int (0 + (m : Nat))), v4, v5, v6, some (.str (mk AH)), some (.str (mk l)), none] ∧ Kp K S Gd G' ∧ SgT l ∧ l.length ≤ 60 + i) ⟨_, l1, rfl, Kp.refl kd.st, hl1, by omega⟩ ?_ ?_⟩
    · rintro i σ' G' hi ⟨v5, l, rfl, kG', hl, hln⟩
      have hi : i < (rn : Int).toNat := hi
      refine ⟨_, rfl, _, rfl, S, l, rfl, kG'.st, hl, by omega, fun l' G'' k' hl' hln' => ?_⟩
      exact ⟨_, l', rfl, kG'.trans k', hl', by omega⟩
    rintro σ' Ge ⟨v5, l, rfl, ke, hl, hln⟩
    have hln : l.length ≤ 62 := by omega
    have ke0 := kd0.trans ke
    have gDe : Ge D = some (.dK kvs) := ke.but _ _ nDs (kd.but _ _ nDs (kc.but _ _ nDs gD))
    dsimp only
    refine sqT ?_
    have dput : DPut Ge D (V.str "here") (V.int 1) (upd Ge D (.dK (putK kvs (.inr (mk HERE)) (.int 1)))) := by
      rw [here_mk]
      exact DPut.k (k := Sum.inr (mk HERE)) gDe (lineT (by omega))
    refine ⟨_, rfl, D, _, rfl, dput, ?_⟩
    have stn := st_updD (o := .dK (putK kvs (.inr (mk HERE)) (.int 1))) ke0.st nDs gDe
    have TGn := tabs_updD (o := .dK (putK kvs (.inr (mk HERE)) (.int 1))) (tabs_kp TG ke0) gDe
    have gDn : upd Ge D (.dK (putK kvs (.inr (mk HERE)) (.int 1))) D = some (.dK (putK kvs (.inr (mk HERE)) (.int 1))) := upd_same
    generalize upd Ge D (.dK (putK kvs (.inr (mk HERE)) (.int 1))) = Gn at stn TGn gDn ⊢
    have kl1 : (putK kvs (.inr (mk HERE)) (.int 1)).length ≤ 3 + m + 1 := by
      have := length_putK kvs (.inr (mk HERE)) (.int 1)
      omega
    have kv1 : ∀ p : Tx, valV (putK kvs (.inr (mk HERE)) (.int 1)) (.inr (mk p)) = (nmL b n (0 - x) p).map V.int := fun p => by
      rw [← hnm, valV_put]
      unfold setN
      by_cases c : p = HERE
      · rw [if_pos (by rw [c]), if_pos c]
        rfl
      · rw [if_neg (fun z => c (key_eq.mp z)), if_neg c]
        exact hkv p
    generalize putK kvs (.inr (mk HERE)) (.int 1) = kvs1 at gDn kl1 kv1
    clear ke0 kd0 kcG gDe dput hkv hkl
    have hB := nmL_bil (b := b) (n := n) (x := 0 - x) ⟨b0, b1⟩ ⟨n0, n1⟩ ⟨by omega, by omega⟩
    have ejn := jnT_law (b := b) (n := n) (x := 0 - x) (t := l) (by omega) (by omega) (by omega) hl
    have eok := law_ok (b := b) (n := n) (x := 0 - x) (t := l) (by omega) (by omega) (by omega) hl (by omega)
    have eD2 : ∀ G' : Hp, G' D = some (.dK kvs1) → ∃ (kvs : List (Key × V)) (nm : Tx → Option Int), G' D = some (.dK kvs) ∧ kvs.length ≤ 3 + (m + 1) ∧ (∀ p, valV kvs (.inr (mk p)) = (nm p).map V.int) ∧ setN nm HERE 1 = nmL b n (0 - x) := fun G' k => ⟨kvs1, nmL b n (0 - x), k, by omega, kv1, by unfold nmL; rw [setN_same]⟩
    refine sqT ?_
    refine ⟨_, rfl, _, rfl, l, D, nmL b n (0 - x), rfl, hl.cl, by omega, ⟨kvs1, gDn, by omega, kv1⟩, hB, fun Gs ss => ?_⟩
    clear hB kv1
    generalize nmL b n (0 - x) = nL at ejn eD2 ⊢
    dsimp only [gName, List.set]
    refine sqT ?_
    refine ifJ (fun σ' G' => ∃ v6' : V, σ' = [some (.ref S.sc), some (.ref S.st), some (.ref D), some (.int (0 + (m : Nat))), v4, v5, some v6', some (.str (mk AH)), some (.str (mk l)), none] ∧ Same Gs G' ∧ ((∃ y, r1L nL l = .bad y ∧ v6' = .str y) ∨ (∃ (j : Int) (t : Addr), r1L nL l = .ok j ∧ v6' = .ref t ∧ SqT K G' t [.int 7, .int j]))) ?_ (fun key => ?_)
    rotate_left
    · cases hs : lawSum nL l with
      | bad y =>
        refine ⟨_, rfl, _, _, _, _, _, rfl, .ty _, Knd.ty (.str y), kit_ty (r := true) (by decide +kernel), _, rfl, itF rfl ?_⟩
        exact key _ _ ⟨_, rfl, Same.refl _, .inl ⟨y, by unfold r1L; rw [hs], rfl⟩⟩
      | ok i =>
        refine ⟨_, rfl, _, _, _, _, _, rfl, .ty _, Knd.ty (.int i), kit_ty (r := false) (by decide +kernel), _, rfl, itT rfl ?_⟩
        refine asgJ (fun σ' G' => ∃ v6' : V, σ' = [some (.ref S.sc), some (.ref S.st), some (.ref D), some (.int (0 + (m : Nat))), v4, v5, some v6', some (.str (mk AH)), some (.str (mk l)), none] ∧ Same Gs G' ∧ ((∃ y, r1L nL l = .bad y ∧ v6' = .str y) ∨ (∃ (j : Int) (t : Addr), r1L nL l = .ok j ∧ v6' = .ref t ∧ SqT K G' t [.int 7, .int j]))) (fun σ' G' hp => key _ _ hp) (fun key => ?_)
        refine ⟨_, _, rfl, rfl, _, rfl, _, _, rfl, rfl, _, rfl, ?_⟩
        have num : ¬ (-32768 ≤ i ∧ i ≤ 65535) → r1L nL l = .bad "number" := fun h => by unfold r1L; rw [hs]; exact if_neg h
        by_cases c1 : -32768 ≤ i
        · refine itT (decide_eq_true (show (0 : Int) - 32768 ≤ i by omega)) ⟨_, _, rfl, rfl, _, rfl, ?_⟩
          by_cases c2 : i < 65536
          · refine itT (decide_eq_true c2) ⟨_, rfl, _, _, rfl, rfl, (show (65536 : Int) ≠ 0 by decide), line5 (by simp), fun t ht => ?_⟩
            have em : i.fmod 65536 = i % 65536 := Int.fmod_eq_emod_of_nonneg _ (by decide)
            dsimp only
            have st_ : Same Gs (upd Gs t (.tup [.int 7, .int (i.fmod 65536)])) := Same.add ht
            have et : (upd Gs t (.tup [.int 7, .int (i.fmod 65536)])) t = some (.tup [.int 7, .int (i.fmod 65536)]) := upd_same
            generalize upd Gs t (.tup [.int 7, .int (i.fmod 65536)]) = Gt at st_ et ⊢
            rw [em] at et
            exact key _ _ ⟨_, rfl, st_, .inr ⟨i % 65536, t, by unfold r1L; rw [hs]; exact if_pos ⟨c1, by omega⟩, rfl, SqT.of et⟩⟩
          · exact itF (decide_eq_false c2) (key _ _ ⟨_, rfl, Same.refl _, .inl ⟨"number", num (by omega), rfl⟩⟩)
        · refine itF (decide_eq_false (show ¬ (0 : Int) - 32768 ≤ i by omega)) ?_
          exact ⟨_, rfl, itF rfl (key _ _ ⟨_, rfl, Same.refl _, .inl ⟨"number", num (by omega), rfl⟩⟩)⟩
    rintro σ' Gt ⟨v6', rfl, st_, h6⟩
    dsimp only
    refine sqT ?_
    refine asgJ (fun σ' G' => ∃ t : Addr, σ' = [some (.ref S.sc), some (.ref S.st), some (.ref D), some (.int (0 + (m : Nat))), v4, v5, some (.ref t), some (.str (mk AH)), some (.str (mk l)), none] ∧ Same Gs G' ∧ ((∃ y, r1L nL l = .bad y ∧ SqT K G' t [.str "BadRow", .int 4, .str y]) ∨ (∃ (j : Int), r1L nL l = .ok j ∧ SqT K G' t [.int 7, .int j]))) ?_ (fun key => ?_)
    rotate_left
    · rcases h6 with ⟨y, hy, rfl⟩ | ⟨j, t, hj, rfl, ht⟩
      · refine ⟨_, rfl, _, _, _, _, _, rfl, .ty _, Knd.ty (.str y), kit_ty (r := true) (by decide +kernel), _, rfl, itT rfl ⟨_, rfl, line5 (by simp), fun t ht => ?_⟩⟩
        have su : Same Gt (upd Gt t (.tup [.str "BadRow", .int 4, .str y])) := Same.add ht
        have eu : (upd Gt t (.tup [.str "BadRow", .int 4, .str y])) t = some (.tup [.str "BadRow", .int 4, .str y]) := upd_same
        generalize upd Gt t (.tup [.str "BadRow", .int 4, .str y]) = Gu at su eu ⊢
        exact key _ _ ⟨_, rfl, Same.trans st_ su, .inl ⟨y, hy, SqT.of eu⟩⟩
      · refine ⟨_, rfl, _, _, _, _, _, rfl, .ty _, Knd.ty (.tup ht), kit_ty (r := false) (by decide +kernel), _, rfl, itF rfl ⟨_, rfl, ?_⟩⟩
        exact key _ _ ⟨_, rfl, st_, .inr ⟨j, hj, ht⟩⟩
    rintro σ' Gu ⟨t6, rfl, su_, h6'⟩
    dsimp only
    refine sqT ?_
    refine asgJ (fun σ' G' => ∃ t : Addr, σ' = [some (.ref S.sc), some (.ref S.st), some (.ref D), some (.int (0 + (m : Nat))), v4, v5, some (.ref t), some (.str (mk AH)), some (.str (mk l)), none] ∧ Same Gs G' ∧ Dp K G' (.ref t) (dueD nL l)) ?_ (fun key => ?_)
    rotate_left
    · refine ⟨_, rfl, rfl, mk l, rfl, rfl, str_line (by omega), ?_⟩
      rw [strip_mk hl.cl]
      refine ⟨rfl, _, rfl, ?_⟩
      have eE : Str.empty = mk [] := rfl
      rw [eE]
      by_cases cs : stripT l = []
      · refine itT (by rw [cs]; exact decide_eq_true rfl) ⟨line5 (by simp), fun t ht => ?_⟩
        have sv : Same Gu (upd Gu t (.tup [.str "BadRow", .int 4, .str "form"])) := Same.add ht
        have ev : (upd Gu t (.tup [.str "BadRow", .int 4, .str "form"])) t = some (.tup [.str "BadRow", .int 4, .str "form"]) := upd_same
        generalize upd Gu t (.tup [.str "BadRow", .int 4, .str "form"]) = Gv at sv ev ⊢
        exact key _ _ ⟨_, rfl, Same.trans su_ sv, by unfold dueD; rw [if_pos cs]; exact .tup (SqT.of ev) (.cons (.str _) (.cons (.int _) (.cons (.str _) .nil)))⟩
      · refine itF (decide_eq_false fun z => cs (mk_inj (V.str.inj z))) ⟨_, rfl, ?_⟩
        refine key _ _ ⟨_, rfl, su_, ?_⟩
        unfold dueD
        rw [if_neg cs]
        rcases h6' with ⟨y, hy, ht⟩ | ⟨j, hj, ht⟩
        · rw [hy]
          exact .tup ht (.cons (.str _) (.cons (.int _) (.cons (.str _) .nil)))
        · rw [hj]
          exact .tup ht (.cons (.int _) (.cons (.int _) .nil))
    rintro σ' Gv ⟨t7, rfl, sv_, h7⟩
    dsimp only
    obtain ⟨dd1, dd2⟩ := dueD_small nL l
    have TGv : LamX.Tabs TL Gv := tabs_same (tabs_same TGn ss) sv_
    refine ⟨TGv, fun Hm eN Tm => ?_⟩
    have eW : (".word 7\n.word " : Str) = mk ((WORDt ++ 32 :: [55]) ++ 10 :: (WORDt ++ [32])) := by decide +kernel
    have lW : (".word 7\n.word " : Str).length = 14 := by decide +kernel
    have lAH : AH.length ≤ 60 := by
      have l1 := decT_len (i := b) (by omega)
      have l2 := decT_len (i := n) (by omega)
      have l3 := decT_len (i := 0 - x) (by omega)
      rw [eAH]
      unfold letRow LETt BIGt Nt X1t
      simp only [List.length_append, List.length_cons, List.length_nil]
      omega
    have tm : SqT K Gv t7 [] → True := fun _ => trivial
    have hm7 : Dp K Hm (.ref t7) (dueD nL l) := by
      refine Dp.rec (motive_1 := fun v d _ => Dp K Hm v d) (motive_2 := fun vs ds _ => DpAll K Hm vs ds) .non .bl .int .str (fun h _ ih => .lst (extN_lst eN h) ih) (fun h _ ih => .tup (extN_tup eN h) ih) .nil (fun _ _ h1 h2 => .cons h1 h2) h7
    have stm : St K Hm S := extN_st eN ((stn.same ss).same sv_)
    have gDm : Hm D = some (.dK kvs1) := eN _ _ (sv_ _ _ (ss _ _ gDn)) (fun _ z => by cases z)
    have fin : ∀ Gw, Same Hm Gw → ∃ (kvs : List (Key × V)) (nm : Tx → Option Int) (v3 v4' v5' v6' v8 : Option V), [some (V.ref S.sc), some (V.ref S.st), some (V.ref D), some (V.int (0 + (m : Nat))), v4, v5, some (V.ref t7), some (V.str (mk AH)), some (V.str (mk l)), none] = [some (.ref S.sc), some (.ref S.st), some (.ref D), v3, v4', v5', v6', some (.str (mk AH)), v8, none] ∧ St K Gw S ∧ LamX.Tabs TL Gw ∧ Gw D = some (.dK kvs) ∧ kvs.length ≤ 3 + (m + 1) ∧ (∀ p, valV kvs (.inr (mk p)) = (nm p).map V.int) ∧ setN nm HERE 1 = nL := fun Gw s => by
      obtain ⟨kvs, nm, a1, a2, a3, a4⟩ := eD2 Gw (s _ _ gDm)
      exact ⟨kvs, nm, _, _, _, _, _, rfl, stm.same s, tabs_same Tm s, a1, a2, a3, a4⟩
    refine ⟨_, rfl, _, _, rfl, rfl, ?l1, _, rfl, _, _, rfl, rfl, ?l2, lawTx b n (0 - x) l, ?eq, eok, fun im ls e U Gw sw hU => ?_, fun k y e Gw sw => ?_⟩
    case l1 => rw [mk_len, lW]; exact Nat.le_of_lt (lineT (by omega))
    case l2 => rw [eW, mk_app, mk_len, mk_len, List.length_append]; exact Nat.le_of_lt (lineT (by simp only [List.length_append, List.length_cons, List.length_nil, WORDt]; omega))
    case eq =>
      rw [eW, mk_app, mk_app, eAH]
      unfold lawTx
      simp
    · have ed : dueD nL l = .tuple (im.map PyData.int) := by
        rw [ejn] at e
        unfold dueD r1L
        by_cases cs : stripT l = []
        · rw [if_pos cs] at e
          cases e
        · rw [if_neg cs] at e ⊢
          cases hs : lawSum nL l with
          | bad y => rw [hs] at e; cases e
          | ok i =>
            rw [hs] at e
            dsimp only at e ⊢
            by_cases c : -32768 ≤ i ∧ i ≤ 65535
            · rw [if_pos c] at e ⊢
              cases e
              rfl
            · rw [if_neg c] at e
              cases e
      refine ⟨_, rfl, _, _, dueD nL l, rfl, ?_, Dp.same sw hm7, dd1, dd2, fun Gx sx => ⟨_, rfl, itF rfl (fin _ (Same.trans sw sx))⟩⟩
      rw [ed]
      exact .tup hU (dp_intsW _)
    · intro d Gx sx fd hd
      refine ⟨rfl, d, _, y, rfl, hd, fun r Gy sy hr => ?_⟩
      have ed : dueD nL l = rowD y ∧ k = 4 := by
        rw [ejn] at e
        unfold dueD r1L
        by_cases cs : stripT l = []
        · rw [if_pos cs] at e ⊢
          cases e
          exact ⟨rfl, rfl⟩
        · rw [if_neg cs] at e ⊢
          cases hs : lawSum nL l with
          | bad y =>
            rw [hs] at e
            cases e
            exact ⟨rfl, rfl⟩
          | ok i =>
            rw [hs] at e
            dsimp only at e ⊢
            by_cases c : -32768 ≤ i ∧ i ≤ 65535
            · rw [if_pos c] at e
              cases e
            · rw [if_neg c] at e ⊢
              cases e
              exact ⟨rfl, rfl⟩
      obtain ⟨ed, rfl⟩ := ed
      have sxy := Same.trans sw (Same.trans sx sy)
      refine ⟨_, rfl, _, _, dueD nL l, rfl, ?_, Dp.same sxy hm7, dd1, dd2, fun Gz sz => ⟨_, rfl, itF rfl (fin _ (Same.trans sxy sz))⟩⟩
      rw [ed]
      exact .tup (SqT.of hr) (.cons (.str _) (.cons (.int _) (.cons (.str _) .nil)))
end
end Bm
set_option maxHeartbeats 1000000
namespace Bm
open PySem PySem.Spec PyProof.Rows L2
def fsNum : List V → List (Str × V) := fun ws => ws.map fun v => ("number", v)
def okNum : List V → Prop := fun ws => ∃ n : Int, ws = [.int n] ∧ n.natAbs.log2 < 1920
section
variable {P : Program} {w : World} {K : PySem.W.Frag} {mg : Str → Option Value} {base : Heap}
theorem app_len (a b : Str) : (a ++ b).length = a.length + b.length := Array.size_append ..
theorem fit2 {a : Str} {n : Int} (h : a.length ≤ 100) (hn : n.natAbs.log2 < 1920) : (Str.empty ++ a).length ≤ sizeLine ∧ ((Str.empty ++ a) ++ (PySem.Str.ofString (toString n))).length ≤ sizeLine := by
  have e : (Str.empty).length = 0 := rfl
  have e1 := int_text_len_1921 hn
  rw [app_len (Str.empty ++ a), app_len, e]
  exact ⟨line5 (by omega), line5 (by omega)⟩
theorem ini_BadImage (S : SupI P K "BadImage" "BadImage.__init__" s_init_BadImage) (hm : mg "super" = none) (hno : PySem.W.findIn K (.ref (He.ga K "BadImage")) "number" = some none) (g : mg "BadImage" = some (.ref (He.ga K "BadImage"))) : BadN P w K mg base "BadImage" ["self", "number"] (spIni (He.ga K "BadImage") fsNum okNum) := by
  obtain ⟨⟨cell, cda, kV, doc, pm, ct, an, F, hcd⟩, T, hi, ht⟩ := S
  refine ⟨g, T, _, _, hi, ht, init_fn2 (N := ["self", "number", "__class__"]) (ps := ["self", "number"]) (k := 0) (e := _) (rest := _) rfl F T hcd (NdefX.nscope_by (by decide +kernel)) rfl rfl rfl rfl hm (fun _ => rfl) (fun vs H Q E h => ?_) (fun A outer s H vs Q E h => ?_), .all fun us hl => match us, hl with | [_, _], _ => rfl⟩
  · obtain ⟨a, ws, rfl, ⟨n, rfl, _⟩, _⟩ := h
    rfl
  · obtain ⟨a, ws, rfl, ⟨n, rfl, hn⟩, ha, q⟩ := h
    refine ⟨_, _, a, _, rfl, ha, pe_joined (.cons pe_str (.cons (pe_fmt (pv 1)) .nil)), pss_one (ps_ost (pv 0) (pv 1)), rfl, rfl, rfl, ?_⟩
    refine ⟨_, rfl, (fit2 (by decide +kernel) hn).1, _, rfl, .inr ⟨n, rfl, hn, _, rfl, (fit2 (by decide +kernel) hn).2, Nat.le_refl _, ha, ?_⟩⟩
    refine ⟨_, rfl, _, rfl, a, _, rfl, T, hno, .inl ⟨ha, fun d hd hda => q d _ hd hda upd_same ?_ fun b h1 h2 => ?_⟩⟩
    · rw [upd_ne hda]
      exact upd_same
    · rw [upd_ne h1, upd_ne h2]
theorem ini_BadGiven (S : SupI P K "BadGiven" "BadGiven.__init__" s_init_BadGiven) (hm : mg "super" = none) (hno : PySem.W.findIn K (.ref (He.ga K "BadGiven")) "number" = some none) (g : mg "BadGiven" = some (.ref (He.ga K "BadGiven"))) : BadN P w K mg base "BadGiven" ["self", "number"] (spIni (He.ga K "BadGiven") fsNum okNum) := by
  obtain ⟨⟨cell, cda, kV, doc, pm, ct, an, F, hcd⟩, T, hi, ht⟩ := S
  refine ⟨g, T, _, _, hi, ht, init_fn2 (N := ["self", "number", "__class__"]) (ps := ["self", "number"]) (k := 0) (e := _) (rest := _) rfl F T hcd (NdefX.nscope_by (by decide +kernel)) rfl rfl rfl rfl hm (fun _ => rfl) (fun vs H Q E h => ?_) (fun A outer s H vs Q E h => ?_), .all fun us hl => match us, hl with | [_, _], _ => rfl⟩
  · obtain ⟨a, ws, rfl, ⟨n, rfl, _⟩, _⟩ := h
    rfl
  · obtain ⟨a, ws, rfl, ⟨n, rfl, hn⟩, ha, q⟩ := h
    refine ⟨_, _, a, _, rfl, ha, pe_joined (.cons pe_str (.cons (pe_fmt (pv 1)) .nil)), pss_one (ps_ost (pv 0) (pv 1)), rfl, rfl, rfl, ?_⟩
    refine ⟨_, rfl, (fit2 (by decide +kernel) hn).1, _, rfl, .inr ⟨n, rfl, hn, _, rfl, (fit2 (by decide +kernel) hn).2, Nat.le_refl _, ha, ?_⟩⟩
    refine ⟨_, rfl, _, rfl, a, _, rfl, T, hno, .inl ⟨ha, fun d hd hda => q d _ hd hda upd_same ?_ fun b h1 h2 => ?_⟩⟩
    · rw [upd_ne hda]
      exact upd_same
    · rw [upd_ne h1, upd_ne h2]
theorem ini_BadList (S : SupI P K "BadList" "BadList.__init__" s_init_BadList) (hm : mg "super" = none) (hno : PySem.W.findIn K (.ref (He.ga K "BadList")) "number" = some none) (g : mg "BadList" = some (.ref (He.ga K "BadList"))) : BadN P w K mg base "BadList" ["self", "number"] (spIni (He.ga K "BadList") fsNum okNum) := by
  obtain ⟨⟨cell, cda, kV, doc, pm, ct, an, F, hcd⟩, T, hi, ht⟩ := S
  refine ⟨g, T, _, _, hi, ht, init_fn2 (N := ["self", "number", "__class__"]) (ps := ["self", "number"]) (k := 0) (e := _) (rest := _) rfl F T hcd (NdefX.nscope_by (by decide +kernel)) rfl rfl rfl rfl hm (fun _ => rfl) (fun vs H Q E h => ?_) (fun A outer s H vs Q E h => ?_), .all fun us hl => match us, hl with | [_, _], _ => rfl⟩
  · obtain ⟨a, ws, rfl, ⟨n, rfl, _⟩, _⟩ := h
    rfl
  · obtain ⟨a, ws, rfl, ⟨n, rfl, hn⟩, ha, q⟩ := h
    refine ⟨_, _, a, _, rfl, ha, pe_joined (.cons pe_str (.cons (pe_fmt (pv 1)) .nil)), pss_one (ps_ost (pv 0) (pv 1)), rfl, rfl, rfl, ?_⟩
    refine ⟨_, rfl, (fit2 (by decide +kernel) hn).1, _, rfl, .inr ⟨n, rfl, hn, _, rfl, (fit2 (by decide +kernel) hn).2, Nat.le_refl _, ha, ?_⟩⟩
    refine ⟨_, rfl, _, rfl, a, _, rfl, T, hno, .inl ⟨ha, fun d hd hda => q d _ hd hda upd_same ?_ fun b h1 h2 => ?_⟩⟩
    · rw [upd_ne hda]
      exact upd_same
    · rw [upd_ne h1, upd_ne h2]
end
end Bm
set_option maxHeartbeats 800000
namespace Bm
open PySem PySem.Spec PyProof.Rows L2
section
variable {P : Program} {w : World} {K : PySem.W.Frag} {mg : Str → Option Value} {base : Heap}
/-- a def of no defaults -/
theorem kn_of {CX : CXT} {k : Nat} {x : Str} {ps : List Str} {sp : Sp} {st : Stmt} {fd : FuncData} (g : mg x = some (.ref (He.ga K x))) (F : FunD K x x (defArgs st) (defBody st) (defScope st) [] [] (He.ga K x) fd) (ok : FnOk P w K mg base CX k (He.ga K x) fd ps sp)
    (h : ∀ (kV doc pm : Value) (an : Option Addr) (cdv ct : Value) (us : List Value), us.length = ps.length → bindArgs (PySem.W.fnOf x x (defArgs st) (defBody st) (defScope st) .none kV doc pm an cdv ct) ⟨us, []⟩ = pure (ps.zip us)) : Kn P w K mg base CX k x ps [] sp :=
  ⟨_, fd, [], g, F.kp, ok, F.bindsN h, .nil⟩
/-- a def with defaults, of which the first j are written over -/
theorem kn_dfl {CX : CXT} {k : Nat} {x : Str} {ps : List Str} {sp : Sp} {st : Stmt} {fd : FuncData} {dvs : List V} (n j : Nat) (g : mg x = some (.ref (He.ga K x))) (F : FunD K x x (defArgs st) (defBody st) (defScope st) dvs [] (He.ga K x) fd) (ok : FnOk P w K mg base CX k (He.ga K x) fd ps sp)
    (hd : dvs ≠ []) (hn : n + (dvs.length - j) = ps.length) (h : ∀ (T : Addr) (kV doc pm : Value) (an : Option Addr) (cdv ct : Value) (us its : List Value), us.length = n → its.length = dvs.length →
      ∃ k, bindArgs (PySem.W.fnOf x x (defArgs st) (defBody st) (defScope st) (.ref T) kV doc pm an cdv ct) ⟨us, []⟩ = seqItems? (.ref T) >>= k ∧ k (some its.toArray) = pure (ps.zip (us ++ its.drop j))) : Kn P w K mg base CX k x ps (dvs.drop j) sp := by
  obtain ⟨ds, h1, h2⟩ := F.binds1 n j hd hn h
  exact ⟨_, fd, ds, g, F.kp, ok, h2, h1⟩
theorem knm {CX : CXT} {k : Nat} {C f : Addr} {m : Str} {ps : List Str} {sp : Sp} {fd : FuncData} (M : Meth K C m f) (ok : FnOk P w K mg base CX k f fd ps sp) (b : Binds K fd ps []) : KnM P w K mg base CX k C m ps [] sp := ⟨f, fd, [], M, ok, b, .nil⟩
theorem knm_dfl {CX : CXT} {k : Nat} {C f : Addr} {m q : Str} {ps : List Str} {sp : Sp} {st : Stmt} {fd : FuncData} {dvs : List V} (n j : Nat) (M : Meth K C m f) (F : FunD K m q (defArgs st) (defBody st) (defScope st) dvs [] f fd) (ok : FnOk P w K mg base CX k f fd ps sp)
    (hd : dvs ≠ []) (hn : n + (dvs.length - j) = ps.length) (h : ∀ (T : Addr) (kV doc pm : Value) (an : Option Addr) (cdv ct : Value) (us its : List Value), us.length = n → its.length = dvs.length →
      ∃ k, bindArgs (PySem.W.fnOf m q (defArgs st) (defBody st) (defScope st) (.ref T) kV doc pm an cdv ct) ⟨us, []⟩ = seqItems? (.ref T) >>= k ∧ k (some its.toArray) = pure (ps.zip (us ++ its.drop j))) : KnM P w K mg base CX k C m ps (dvs.drop j) sp := by
  obtain ⟨ds, h1, h2⟩ := F.binds1 n j hd hn h
  exact ⟨f, fd, ds, M, ok, h2, h1⟩
end
theorem same_n {P : Program} {w : World} {K : PySem.W.Frag} {mg : Str → Option Value} {base : Heap} {fd : FuncData} (g : mg "_law_same" = some (.ref (He.ga K "_law_same"))) (F : FunD K "_law_same" "_law_same" (defArgs s__law_same) (defBody s__law_same) (defScope s__law_same) [] [] (He.ga K "_law_same") fd)
    (g_isinstance : mg "isinstance" = none) (g_tuple : mg "tuple" = none) (g_list : mg "list" = none) (g_bool : mg "bool" = none) (g_int : mg "int" = none) (g_len : mg "len" = none) (g_range : mg "range" = none) :
    ∀ n, Kn P w K mg base CX0 n "_law_same" ["_law_found", "_law_due"] [] (spSame K n)
  | 0 => kn_of g F ⟨fun vs H Q E h => by obtain ⟨x, y, d, _, _, _, z, _⟩ := h; exact absurd z (Nat.not_lt_zero _), fun A outer s H args us vs Q E _ _ _ _ h => by obtain ⟨x, y, d, _, _, _, z, _⟩ := h; exact absurd z (Nat.not_lt_zero _)⟩
      (fun _ _ _ _ _ _ us hl => match us, hl with | [_, _], _ => rfl)
  | n + 1 => kn_of g F (ok_same F g_isinstance g_tuple g_list g_bool g_int g_len g_range (same_n g F g_isinstance g_tuple g_list g_bool g_int g_len g_range n)) (fun _ _ _ _ _ _ us hl => match us, hl with | [_, _], _ => rfl)
theorem facts {P : Program} {w : World} {K : PySem.W.Frag} {h h' : Heap} {mg : Str → Option Value} {f : Addr} (hP : P.main.file = FILE) (top_ : (P.main.scope.names.lookup ("super" : Str)).isSome = false) (KX : K.In h) (G : h.Ns mainGlobals mg) (hfa : mg ("law" : Str) = some (.ref f)) (c0 : SaysI faL fnL tsL tfL ciL exB w h' K) :
    ∃ fd : FuncData, (∀ (s : Shared) (v : Value), BindsTo s fd ⟨[v], []⟩ [("_law_script", v)]) ∧ ∀ base : Heap, K.In base → base.Ns mainGlobals mg → LamX.TabB base mg (He.cT K ("law", none)).1 (He.cT K ("law", none)).2 → FnOk P w K mg base CX0 12 f fd ["_law_script"] (spLaw K (He.cT K ("law", none)).2) := by
  have c := c0.x
  obtain ⟨cB, z0⟩ := He.ba (show (conB [] K && (conRB K && (kindRB K && supB K FILE "BadRow" "BadRow.__init__"))) = true from c.more)
  obtain ⟨cRB, z⟩ := He.ba z0
  obtain ⟨kRB, sB⟩ := He.ba z
  have hC : Con w K mg [] := con_of cB (He.glo_ok KX G (c.t.d.fact 11 (f := .glo "SINGLES") rfl)) (He.glo_ok KX G (c.t.d.fact 12 (f := .glo "SUMS") rfl)) (He.glo_ok KX G (c.t.d.fact 13 (f := .glo "TIMES") rfl)) (He.glo_ok KX G (c.t.d.fact 14 (f := .glo "PARTS") rfl)) (He.glo_ok KX G (c.t.d.fact 15 (f := .glo "SPANS") rfl)) (c.t.tab 0 (t := (fun K => He.ga K "PARTS", _)) rfl) (c.t.tab 1 (t := (fun K => He.ga K "SPANS", _)) rfl)
  have hR : ConR w K mg := conR_of cRB (He.glo_ok KX G (c.t.d.fact 32 (f := .glo "SHORTER") rfl)) (He.glo_ok KX G (c.t.d.fact 33 (f := .glo "JUMPS") rfl)) (He.glo_ok KX G (c.t.d.fact 34 (f := .glo "CALLS") rfl)) (He.glo_ok KX G (c.t.d.fact 21 (f := .glo "REGISTERS") rfl)) (He.glo_ok KX G (c.t.d.fact 31 (f := .glo "OWN_KINDS") rfl)) (He.glo_ok KX G (c.t.d.fact 53 (f := .glo "OWN_SPANS") rfl)) (c.t.tab 2 (t := (fun K => He.ga K "OWN_KINDS", _)) rfl) (c.t.tab 3 (t := (fun K => He.ga K "OWN_SPANS", _)) rfl)
  have clI : fnCl K ("BadRow", some "__init__") = (DefI.mk "BadRow" "BadRow.__init__" s_init_BadRow).val := (List.cons.inj (List.cons.inj (List.cons.inj (List.cons.inj c0.cl).2).2).2).1
  have SI : SupI P K "BadRow" "BadRow.__init__" s_init_BadRow := supI_of (by rw [hP]; exact sB) clI top_
  obtain ⟨fd_is_number, F_is_number⟩ := (c.t.d.def_ 0 (d := d_is_number) rfl)
  obtain ⟨fd_words_of, F_words_of⟩ := (c.t.d.def_ 1 (d := d_words_of) rfl)
  obtain ⟨fd_going_words, F_going_words⟩ := (c.t.d.def_ 2 (d := d_going_words) rfl)
  obtain ⟨fd_is_reached, F_is_reached⟩ := (c.t.d.def_ 3 (d := d_is_reached) rfl)
  obtain ⟨fd_only_word, F_only_word⟩ := (c.t.d.def_ 4 (d := d_only_word) rfl)
  obtain ⟨fd_fields, F_fields⟩ := (c.t.d.def_ 5 (d := d_fields) rfl)
  obtain ⟨fd_rows_of, F_rows_of⟩ := (c.t.d.def_ 6 (d := d_rows_of) rfl)
  obtain ⟨fd_lowered, F_lowered⟩ := (c.t.d.def_ 7 (d := d_lowered) rfl)
  obtain ⟨fd_word_and_rest, F_word_and_rest⟩ := (c.t.d.def_ 8 (d := d_word_and_rest) rfl)
  obtain ⟨fd_parts_of, F_parts_of⟩ := (c.t.d.def_ 9 (d := d_parts_of) rfl)
  obtain ⟨fd_is_name, F_is_name⟩ := (c.t.d.def_ 10 (d := d_is_name) rfl)
  obtain ⟨fd_number_of, F_number_of⟩ := (c.t.d.def_ 11 (d := d_number_of) rfl)
  obtain ⟨fd_sign_number, F_sign_number⟩ := (c.t.d.def_ 12 (d := d_sign_number) rfl)
  obtain ⟨fd_figured, F_figured⟩ := (c.t.d.def_ 13 (d := d_figured) rfl)
  obtain ⟨fd_is_told, F_is_told⟩ := (c.t.d.def_ 14 (d := d_is_told) rfl)
  obtain ⟨fd_kinds_of, F_kinds_of⟩ := (c.t.d.def_ 15 (d := d_kinds_of) rfl)
  obtain ⟨fd_is_form, F_is_form⟩ := (c.t.d.def_ 16 (d := d_is_form) rfl)
  obtain ⟨fd_fits, F_fits⟩ := (c.t.d.def_ 17 (d := d_fits) rfl)
  obtain ⟨fd_goal_name, F_goal_name⟩ := (c.t.d.def_ 18 (d := d_goal_name) rfl)
  obtain ⟨fd_least_size, F_least_size⟩ := (c.t.d.def_ 19 (d := d_least_size) rfl)
  obtain ⟨fd_exchanged_rows, F_exchanged_rows⟩ := (c.t.d.def_ 20 (d := d_exchanged_rows) rfl)
  obtain ⟨fd_check_label, F_check_label⟩ := (c.t.d.def_ 21 (d := d_check_label) rfl)
  obtain ⟨fd_rows_ahead_of_end, F_rows_ahead_of_end⟩ := (c.t.d.def_ 22 (d := d_rows_ahead_of_end) rfl)
  obtain ⟨fd_parameters_of, F_parameters_of⟩ := (c.t.d.def_ 23 (d := d_parameters_of) rfl)
  obtain ⟨fd_told_texts, F_told_texts⟩ := (c.t.d.def_ 24 (d := d_told_texts) rfl)
  obtain ⟨fd_name_and_text, F_name_and_text⟩ := (c.t.d.def_ 25 (d := d_name_and_text) rfl)
  obtain ⟨fd_exchanged, F_exchanged⟩ := (c.t.d.def_ 26 (d := d_exchanged) rfl)
  obtain ⟨fd_exchanged_one, F_exchanged_one⟩ := (c.t.d.def_ 27 (d := d_exchanged_one) rfl)
  obtain ⟨fd_starts_of, F_starts_of⟩ := (c.t.d.def_ 28 (d := d_starts_of) rfl)
  obtain ⟨fd_widened, F_widened⟩ := (c.t.d.def_ 29 (d := d_widened) rfl)
  obtain ⟨fd_sum_of, F_sum_of⟩ := (c.t.d.def_ 30 (d := d_sum_of) rfl)
  obtain ⟨fd_pieces, F_pieces⟩ := (c.t.d.def_ 31 (d := d_pieces) rfl)
  obtain ⟨fd_worth, F_worth⟩ := (c.t.d.def_ 32 (d := d_worth) rfl)
  obtain ⟨fd_reckoned_on, F_reckoned_on⟩ := (c.t.d.def_ 33 (d := d_reckoned_on) rfl)
  obtain ⟨fd_signed_sum, F_signed_sum⟩ := (c.t.d.def_ 34 (d := d_signed_sum) rfl)
  obtain ⟨fd_assembled, F_assembled⟩ := (c.t.d.def_ 35 (d := d_assembled) rfl)
  obtain ⟨fd_joined, F_joined⟩ := (c.t.d.def_ 36 (d := d_joined) rfl)
  obtain ⟨fd_numbers_of_labels, F_numbers_of_labels⟩ := (c.t.d.def_ 37 (d := d_numbers_of_labels) rfl)
  obtain ⟨fd_own_names, F_own_names⟩ := (c.t.d.def_ 38 (d := d_own_names) rfl)
  obtain ⟨fd_sizes_of, F_sizes_of⟩ := (c.t.d.def_ 39 (d := d_sizes_of) rfl)
  obtain ⟨fd_check_length, F_check_length⟩ := (c.t.d.def_ 40 (d := d_check_length) rfl)
  obtain ⟨fd_row_words, F_row_words⟩ := (c.t.d.def_ 41 (d := d_row_words) rfl)
  obtain ⟨fd_fill_words, F_fill_words⟩ := (c.t.d.def_ 42 (d := d_fill_words) rfl)
  obtain ⟨fd_deed_words, F_deed_words⟩ := (c.t.d.def_ 43 (d := d_deed_words) rfl)
  obtain ⟨fd_deed_parts, F_deed_parts⟩ := (c.t.d.def_ 44 (d := d_deed_parts) rfl)
  obtain ⟨fd__law_start, F__law_start⟩ := (c.t.d.def_ 45 (d := d__law_start) rfl)
  obtain ⟨fd__law_drawn, F__law_drawn⟩ := (c.t.d.def_ 46 (d := d__law_drawn) rfl)
  obtain ⟨fd__law_same, F__law_same⟩ := (c.t.d.def_ 47 (d := d__law_same) rfl)
  obtain ⟨fd__law_kind, F__law_kind⟩ := (c.t.d.def_ 48 (d := d__law_kind) rfl)
  obtain ⟨fd__law_parsed, F__law_parsed⟩ := (c.t.d.def_ 49 (d := d__law_parsed) rfl)
  obtain ⟨fd__law_is_name, F__law_is_name⟩ := (c.t.d.def_ 50 (d := d__law_is_name) rfl)
  obtain ⟨fd__law_number_in, F__law_number_in⟩ := (c.t.d.def_ 51 (d := d__law_number_in) rfl)
  obtain ⟨fd__law_pieces, F__law_pieces⟩ := (c.t.d.def_ 52 (d := d__law_pieces) rfl)
  obtain ⟨fd__law_bits, F__law_bits⟩ := (c.t.d.def_ 53 (d := d__law_bits) rfl)
  obtain ⟨fd__law_comes, F__law_comes⟩ := (c.t.d.def_ 54 (d := d__law_comes) rfl)
  obtain ⟨fd__law_sum, F__law_sum⟩ := (c.t.d.def_ 55 (d := d__law_sum) rfl)
  obtain ⟨fd__law_some_sum, F__law_some_sum⟩ := (c.t.d.def_ 56 (d := d__law_some_sum) rfl)
  obtain ⟨fd__law_spoilt, F__law_spoilt⟩ := (c.t.d.def_ 57 (d := d__law_spoilt) rfl)
  obtain ⟨fd_Row____init__, F_Row____init__⟩ := (c.t.d.def_ 59 (d := d_Row____init__) rfl)
  obtain ⟨fd_Macro____init__, F_Macro____init__⟩ := (c.t.d.def_ 60 (d := d_Macro____init__) rfl)
  obtain ⟨fd_Exchange____init__, F_Exchange____init__⟩ := (c.t.d.def_ 61 (d := d_Exchange____init__) rfl)
  obtain ⟨fd_Exchange__tell, F_Exchange__tell⟩ := (c.t.d.def_ 62 (d := d_Exchange__tell) rfl)
  obtain ⟨fd_Exchange__is_free, F_Exchange__is_free⟩ := (c.t.d.def_ 63 (d := d_Exchange__is_free) rfl)
  obtain ⟨fd_Exchange__put, F_Exchange__put⟩ := (c.t.d.def_ 64 (d := d_Exchange__put) rfl)
  obtain ⟨fd_Exchange__put_called, F_Exchange__put_called⟩ := (c.t.d.def_ 65 (d := d_Exchange__put_called) rfl)
  obtain ⟨fd_Exchange__put_one, F_Exchange__put_one⟩ := (c.t.d.def_ 66 (d := d_Exchange__put_one) rfl)
  obtain ⟨fd, F⟩ := (c.t.d.def_ 58 (d := d_law) rfl)
  have e := hfa.symm.trans (He.glo_ok KX G (c.t.d.fact 82 (f := .glo "law") rfl))
  cases e
  have b := FunD.bindsA (ps := ["_law_script"]) F fun _ _ _ _ _ _ us hl => match us, hl with | [_], _ => rfl
  refine ⟨fd, fun s v => b s [v] rfl, fun base hb1 hb2 TB => ?_⟩
  have bR : BadRo P w K mg base := ini_BadRow SI (He.free_ok KX G (c.t.d.fact 111 (f := .free "super") rfl)) (He.noat_ok (c.t.d.fact 122 (f := .noat "BadRow" "row") rfl)) (He.noat_ok (c.t.d.fact 123 (f := .noat "BadRow" "why") rfl)) (He.glo_ok KX G (c.t.d.fact 9 (f := .glo "BadRow") rfl))
  have T : CT K (He.ga K "Row") RFN := ⟨(He.cls_ok (c.t.d.fact 153 (f := .cls "Row") rfl)), fun f hf => by
    simp only [RFN, List.mem_cons, List.not_mem_nil, or_false] at hf
    rcases hf with rfl | rfl | rfl | rfl | rfl | rfl
    · exact (He.noat_ok (c.t.d.fact 154 (f := .noat "Row" "number") rfl))
    · exact (He.noat_ok (c.t.d.fact 155 (f := .noat "Row" "label") rfl))
    · exact (He.noat_ok (c.t.d.fact 159 (f := .noat "Row" "rest") rfl))
    · exact (He.noat_ok (c.t.d.fact 156 (f := .noat "Row" "word") rfl))
    · exact (He.noat_ok (c.t.d.fact 157 (f := .noat "Row" "texts") rfl))
    · exact (He.noat_ok (c.t.d.fact 158 (f := .noat "Row" "parts") rfl))⟩
  have TE : CT K (He.ga K "Exchange") EFN := ⟨(He.cls_ok (c.t.d.fact 124 (f := .cls "Exchange") rfl)), fun f hf => by
    simp only [EFN, List.mem_cons, List.not_mem_nil, or_false] at hf
    rcases hf with rfl | rfl | rfl
    · exact (He.noat_ok (c.t.d.fact 132 (f := .noat "Exchange" "rows") rfl))
    · exact (He.noat_ok (c.t.d.fact 133 (f := .noat "Exchange" "macros") rfl))
    · exact (He.noat_ok (c.t.d.fact 134 (f := .noat "Exchange" "calls") rfl))⟩
  have kRe := kn_of (P := P) (w := w) (base := base) (st := s_is_reached) (He.glo_ok KX G (c.t.d.fact 18 (f := .glo "is_reached") rfl)) F_is_reached (ok_reached F_is_reached) (fun _ _ _ _ _ _ us hl => match us, hl with | [_, _], _ => rfl)
  have kN := kn_of (P := P) (w := w) (base := base) (st := s_is_number) (He.glo_ok KX G (c.t.d.fact 10 (f := .glo "is_number") rfl)) F_is_number (ok_numO F_is_number (He.free_ok KX G (c.t.d.fact 102 (f := .free "isinstance") rfl)) (He.free_ok KX G (c.t.d.fact 98 (f := .free "bool") rfl)) (He.free_ok KX G (c.t.d.fact 101 (f := .free "int") rfl))) (fun _ _ _ _ _ _ us hl => match us, hl with | [_, _, _], _ => rfl)
  have kLow := kn_of (P := P) (w := w) (base := base) (st := s_lowered) (He.glo_ok KX G (c.t.d.fact 24 (f := .glo "lowered") rfl)) F_lowered (ok_lowered F_lowered (He.free_ok KX G (c.t.d.fact 100 (f := .free "enumerate") rfl))) (fun _ _ _ _ _ _ us hl => match us, hl with | [_], _ => rfl)
  have kWr := kn_of (P := P) (w := w) (base := base) (st := s_word_and_rest) (He.glo_ok KX G (c.t.d.fact 25 (f := .glo "word_and_rest") rfl)) F_word_and_rest (ok_wrest F_word_and_rest (He.str_ok KX G (c.t.d.fact 94 (f := .str "WORD_SIGNS" "abcdefghijklmnopqrstuvwxyzABCDEFGHIJKLMNOPQRSTUVWXYZ0123456789.") rfl)) (He.free_ok KX G (c.t.d.fact 103 (f := .free "len") rfl))) (fun _ _ _ _ _ _ us hl => match us, hl with | [_], _ => rfl)
  have kPa := kn_of (P := P) (w := w) (base := base) (st := s_parts_of) (He.glo_ok KX G (c.t.d.fact 26 (f := .glo "parts_of") rfl)) F_parts_of (ok_parts F_parts_of) (fun _ _ _ _ _ _ us hl => match us, hl with | [_], _ => rfl)
  have kSg := kn_of (P := P) (w := w) (base := base) (st := s_sign_number) (He.glo_ok KX G (c.t.d.fact 29 (f := .glo "sign_number") rfl)) F_sign_number (ok_signno F_sign_number (He.str_ok KX G (c.t.d.fact 92 (f := .str "LETTERS" "abcdefghijklmnopqrstuvwxyz") rfl)) (He.free_ok KX G (c.t.d.fact 103 (f := .free "len") rfl)) (He.free_ok KX G (c.t.d.fact 107 (f := .free "ord") rfl))) (fun _ _ _ _ _ _ us hl => match us, hl with | [_], _ => rfl)
  have kFg := kn_of (P := P) (w := w) (base := base) (st := s_figured) (He.glo_ok KX G (c.t.d.fact 30 (f := .glo "figured") rfl)) F_figured (ok_figured F_figured (He.free_ok KX G (c.t.d.fact 103 (f := .free "len") rfl)) (He.free_ok KX G (c.t.d.fact 97 (f := .free "all") rfl)) (He.free_ok KX G (c.t.d.fact 101 (f := .free "int") rfl))) (fun _ _ _ _ _ _ us hl => match us, hl with | [_, _, _], _ => rfl)
  have kNo := kn_of (P := P) (w := w) (base := base) (st := s_number_of) (He.glo_ok KX G (c.t.d.fact 28 (f := .glo "number_of") rfl)) F_number_of (ok_numof F_number_of kSg kFg) (fun _ _ _ _ _ _ us hl => match us, hl with | [_], _ => rfl)
  have kNm := kn_of (P := P) (w := w) (base := base) (st := s_is_name) (He.glo_ok KX G (c.t.d.fact 27 (f := .glo "is_name") rfl)) F_is_name (ok_isname F_is_name (He.str_ok KX G (c.t.d.fact 92 (f := .str "LETTERS" "abcdefghijklmnopqrstuvwxyz") rfl)) (He.str_ok KX G (c.t.d.fact 93 (f := .str "FIGURES" "0123456789") rfl)) (He.int_ok KX G (c.t.d.fact 85 (f := .int "NAME_MOST" 8) rfl)) (He.glo_ok KX G (c.t.d.fact 21 (f := .glo "REGISTERS") rfl)) hR.rg (He.free_ok KX G (c.t.d.fact 103 (f := .free "len") rfl)) (He.free_ok KX G (c.t.d.fact 97 (f := .free "all") rfl))) (fun _ _ _ _ _ _ us hl => match us, hl with | [_], _ => rfl)
  have kRo := kn_of (P := P) (w := w) (base := base) (st := s_rows_of) (He.glo_ok KX G (c.t.d.fact 23 (f := .glo "rows_of") rfl)) F_rows_of (ok_rowsof F_rows_of) (fun _ _ _ _ _ _ us hl => match us, hl with | [_], _ => rfl)
  have okR := ok_rowI (P := P) (w := w) (mg := mg) (base := base) F_Row____init__ T kLow kWr kPa
  have cR : KnRow P w K mg base (He.ga K "Row") := ⟨_, _, _, [], (He.mkr_ok (c.t.d.fact 164 (f := .mkr "Row") rfl)), okR, (He.glo_ok KX G (c.t.d.fact 22 (f := .glo "Row") rfl)), F_Row____init__.bindsN fun _ _ _ _ _ _ us hl => match us, hl with | [_, _, _], _ => rfl, .nil⟩
  have kTo := kn_of (P := P) (w := w) (base := base) (st := s_is_told) (He.glo_ok KX G (c.t.d.fact 35 (f := .glo "is_told") rfl)) F_is_told (ok_told F_is_told hC hR) (fun _ _ _ _ _ _ us hl => match us, hl with | [_], _ => rfl)
  have kKi := kn_of (P := P) (w := w) (base := base) (st := s_kinds_of) (He.glo_ok KX G (c.t.d.fact 36 (f := .glo "kinds_of") rfl)) F_kinds_of (ok_kinds F_kinds_of hC hR) (fun _ _ _ _ _ _ us hl => match us, hl with | [_], _ => rfl)
  have kFi := kn_of (P := P) (w := w) (base := base) (st := s_fits) (He.glo_ok KX G (c.t.d.fact 38 (f := .glo "fits") rfl)) F_fits (ok_fits F_fits hC hR kNm kN kNo (He.int_ok KX G (c.t.d.fact 86 (f := .int "ROOM_MOST" 50) rfl))) (fun _ _ _ _ _ _ us hl => match us, hl with | [_, _], _ => rfl)
  have kGn := kn_of (P := P) (w := w) (base := base) (st := s_goal_name) (He.glo_ok KX G (c.t.d.fact 39 (f := .glo "goal_name") rfl)) F_goal_name (ok_goalname F_goal_name T hR) (fun _ _ _ _ _ _ us hl => match us, hl with | [_], _ => rfl)
  have kFo := kn_of (P := P) (w := w) (base := base) (st := s_is_form) (He.glo_ok KX G (c.t.d.fact 37 (f := .glo "is_form") rfl)) F_is_form (ok_isform F_is_form T hR kTo kKi kFi (He.free_ok KX G (c.t.d.fact 103 (f := .free "len") rfl)) (He.free_ok KX G (c.t.d.fact 97 (f := .free "all") rfl)) (He.free_ok KX G (c.t.d.fact 113 (f := .free "zip") rfl))) (fun _ _ _ _ _ _ us hl => match us, hl with | [_], _ => rfl)
  have kLs := kn_of (P := P) (w := w) (base := base) (st := s_least_size) (He.glo_ok KX G (c.t.d.fact 40 (f := .glo "least_size") rfl)) F_least_size (ok_least F_least_size T kNo (He.free_ok KX G (c.t.d.fact 103 (f := .free "len") rfl))) (fun _ _ _ _ _ _ us hl => match us, hl with | [_], _ => rfl)
  have kCl := kn_of (P := P) (w := w) (base := base) (st := s_check_label) (He.glo_ok KX G (c.t.d.fact 44 (f := .glo "check_label") rfl)) F_check_label (ok_checkl F_check_label T kNm bR) (fun _ _ _ _ _ _ us hl => match us, hl with | [_], _ => rfl)
  have okE := ok_exI (P := P) (w := w) (mg := mg) (base := base) F_Exchange____init__ TE
  have cE : KnEx P w K mg base (He.ga K "Exchange") := ⟨_, _, _, [], (He.mkr_ok (c.t.d.fact 140 (f := .mkr "Exchange") rfl)), okE, (He.glo_ok KX G (c.t.d.fact 42 (f := .glo "Exchange") rfl)), F_Exchange____init__.bindsN fun _ _ _ _ _ _ us hl => match us, hl with | [_], _ => rfl, .nil⟩
  have mP1 := knm (P := P) (w := w) (mg := mg) (base := base) (He.meth_ok (c.t.d.fact 139 (f := .meth "Exchange" "put_one") rfl)) (ok_put1 F_Exchange__put_one T TE bR (He.int_ok KX G (c.t.d.fact 87 (f := .int "ROWS_MOST" 300) rfl)) (He.free_ok KX G (c.t.d.fact 103 (f := .free "len") rfl))) (F_Exchange__put_one.bindsN fun _ _ _ _ _ _ us hl => match us, hl with | [_, _], _ => rfl)
  have mPu := knm (P := P) (w := w) (mg := mg) (base := base) (He.meth_ok (c.t.d.fact 137 (f := .meth "Exchange" "put") rfl)) (ok_put F_Exchange__put T TE mP1) (F_Exchange__put.bindsN fun _ _ _ _ _ _ us hl => match us, hl with | [_, _, _], _ => rfl)
  have kXr := kn_of (P := P) (w := w) (base := base) (st := s_exchanged_rows) (He.glo_ok KX G (c.t.d.fact 43 (f := .glo "exchanged_rows") rfl)) F_exchanged_rows (ok_xrows F_exchanged_rows T TE cE cR kCl mPu (He.free_ok KX G (c.t.d.fact 103 (f := .free "len") rfl))) (fun _ _ _ _ _ _ us hl => match us, hl with | [_], _ => rfl)
  have kSs := kn_of (P := P) (w := w) (base := base) (st := s_signed_sum) (He.glo_ok KX G (c.t.d.fact 58 (f := .glo "signed_sum") rfl)) F_signed_sum (ok_signed_sum F_signed_sum) (fun _ _ _ _ _ _ us hl => match us, hl with | [_, _, _], _ => rfl)
  have kOn := kn_of (P := P) (w := w) (base := base) (st := s_reckoned_on) (He.glo_ok KX G (c.t.d.fact 57 (f := .glo "reckoned_on") rfl)) F_reckoned_on (ok_on F_reckoned_on kSs bR (He.int_ok KX G (c.t.d.fact 91 (f := .int "OFTEN_MOST" 16) rfl)) (He.int_ok KX G (c.t.d.fact 90 (f := .int "TOTAL_MOST" 1000000000) rfl))) (fun _ _ _ _ _ _ us hl => match us, hl with | [_, _, _, _], _ => rfl)
  have kWo := kn_of (P := P) (w := w) (base := base) (st := s_worth) (He.glo_ok KX G (c.t.d.fact 56 (f := .glo "worth") rfl)) F_worth (ok_worth F_worth kNm kNo bR) (fun _ _ _ _ _ _ us hl => match us, hl with | [_, _, _], _ => rfl)
  have kPc := kn_of (P := P) (w := w) (base := base) (st := s_pieces) (He.glo_ok KX G (c.t.d.fact 55 (f := .glo "pieces") rfl)) F_pieces (ok_pieces F_pieces (He.str_ok KX G (c.t.d.fact 95 (f := .str "SIGNS" "+-*&|^<>") rfl)) (He.free_ok KX G (c.t.d.fact 103 (f := .free "len") rfl)) (He.free_ok KX G (c.t.d.fact 108 (f := .free "range") rfl))) (fun _ _ _ _ _ _ us hl => match us, hl with | [_], _ => rfl)
  have kSu := kn_of (P := P) (w := w) (base := base) (st := s_sum_of) (He.glo_ok KX G (c.t.d.fact 54 (f := .glo "sum_of") rfl)) F_sum_of (ok_sumof F_sum_of hC hR kPc kOn kWo bR) (fun _ _ _ _ _ _ us hl => match us, hl with | [_, _, _, _], _ => rfl)
  have kOw := kn_of (P := P) (w := w) (base := base) (st := s_own_names) (He.glo_ok KX G (c.t.d.fact 62 (f := .glo "own_names") rfl)) F_own_names (ok_ownn F_own_names T) (fun _ _ _ _ _ _ us hl => match us, hl with | [_], _ => rfl)
  have kNl := kn_of (P := P) (w := w) (base := base) (st := s_numbers_of_labels) (He.glo_ok KX G (c.t.d.fact 61 (f := .glo "numbers_of_labels") rfl)) F_numbers_of_labels (ok_nums F_numbers_of_labels T kFo kOw bR (He.free_ok KX G (c.t.d.fact 100 (f := .free "enumerate") rfl))) (fun _ _ _ _ _ _ us hl => match us, hl with | [_], _ => rfl)
  have kSo := kn_of (P := P) (w := w) (base := base) (st := s_starts_of) (He.glo_ok KX G (c.t.d.fact 51 (f := .glo "starts_of") rfl)) F_starts_of (ok_spots F_starts_of) (fun _ _ _ _ _ _ us hl => match us, hl with | [_], _ => rfl)
  have kWi := kn_of (P := P) (w := w) (base := base) (st := s_widened) (He.glo_ok KX G (c.t.d.fact 52 (f := .glo "widened") rfl)) F_widened (ok_wide F_widened kSo kRe (He.free_ok KX G (c.t.d.fact 104 (f := .free "list") rfl)) (He.free_ok KX G (c.t.d.fact 100 (f := .free "enumerate") rfl)) (He.free_ok KX G (c.t.d.fact 103 (f := .free "len") rfl))) (fun _ _ _ _ _ _ us hl => match us, hl with | [_, _], _ => rfl)
  have kSz := kn_of (P := P) (w := w) (base := base) (st := s_sizes_of) (He.glo_ok KX G (c.t.d.fact 63 (f := .glo "sizes_of") rfl)) F_sizes_of (ok_sizes F_sizes_of T kGn kLs kWi bR) (fun _ _ _ _ _ _ us hl => match us, hl with | [_, _], _ => rfl)
  have kCk := kn_of (P := P) (w := w) (base := base) (st := s_check_length) (He.glo_ok KX G (c.t.d.fact 64 (f := .glo "check_length") rfl)) F_check_length (ok_len F_check_length T bR (He.free_ok KX G (c.t.d.fact 100 (f := .free "enumerate") rfl)) (He.int_ok KX G (c.t.d.fact 84 (f := .int "IMAGE_MOST" 200) rfl))) (fun _ _ _ _ _ _ us hl => match us, hl with | [_, _], _ => rfl)
  have kRw := kn_of (P := P) (w := w) (base := base) (st := s_row_words) (He.glo_ok KX G (c.t.d.fact 65 (f := .glo "row_words") rfl)) F_row_words (ok_rowwS F_row_words T kSu (He.free_ok KX G (c.t.d.fact 112 (f := .free "tuple") rfl)) (He.int_ok KX G (c.t.d.fact 83 (f := .int "WORD_MOST" 65535) rfl))) (fun _ _ _ _ _ _ us hl => match us, hl with | [_, _, _], _ => rfl)
  have kJo := kn_of (P := P) (w := w) (base := base) (st := s_joined) (He.glo_ok KX G (c.t.d.fact 60 (f := .glo "joined") rfl)) F_joined (ok_joined F_joined T (fun nm r n ws h => wSim_len h) kRo kXr kNl kSz kSo kCk kRw kSu (He.free_ok KX G (c.t.d.fact 100 (f := .free "enumerate") rfl)) (He.free_ok KX G (c.t.d.fact 99 (f := .free "dict") rfl)) (He.free_ok KX G (c.t.d.fact 112 (f := .free "tuple") rfl))) (fun _ _ _ _ _ _ us hl => match us, hl with | [_], _ => rfl)
  have kAs := kn_of (P := P) (w := w) (base := base) (st := s_assembled) (He.glo_ok KX G (c.t.d.fact 59 (f := .glo "assembled") rfl)) F_assembled (ok_asm F_assembled kJo) (fun _ _ _ _ _ _ us hl => match us, hl with | [_], _ => rfl)
  have kSt := kn_of (P := P) (w := w) (base := base) (st := s__law_start) (He.glo_ok KX G (c.t.d.fact 69 (f := .glo "_law_start") rfl)) F__law_start (ok_start F__law_start) (fun _ _ _ _ _ _ us hl => match us, hl with | [_], _ => rfl)
  have kDr := kn_of (P := P) (w := w) (base := base) (st := s__law_drawn) (He.glo_ok KX G (c.t.d.fact 70 (f := .glo "_law_drawn") rfl)) F__law_drawn (ok_drawn F__law_drawn (He.free_ok KX G (c.t.d.fact 103 (f := .free "len") rfl))) (fun _ _ _ _ _ _ us hl => match us, hl with | [_, _], _ => rfl)
  have kSm := same_n (P := P) (w := w) (base := base) (He.glo_ok KX G (c.t.d.fact 71 (f := .glo "_law_same") rfl)) F__law_same (He.free_ok KX G (c.t.d.fact 102 (f := .free "isinstance") rfl)) (He.free_ok KX G (c.t.d.fact 112 (f := .free "tuple") rfl)) (He.free_ok KX G (c.t.d.fact 104 (f := .free "list") rfl)) (He.free_ok KX G (c.t.d.fact 98 (f := .free "bool") rfl)) (He.free_ok KX G (c.t.d.fact 101 (f := .free "int") rfl)) (He.free_ok KX G (c.t.d.fact 103 (f := .free "len") rfl)) (He.free_ok KX G (c.t.d.fact 108 (f := .free "range") rfl)) 3
  have kLn := kn_of (P := P) (w := w) (base := base) (st := s__law_is_name) (He.glo_ok KX G (c.t.d.fact 74 (f := .glo "_law_is_name") rfl)) F__law_is_name (ok_lnm F__law_is_name (He.free_ok KX G (c.t.d.fact 103 (f := .free "len") rfl)) (He.free_ok KX G (c.t.d.fact 108 (f := .free "range") rfl)) (He.free_ok KX G (c.t.d.fact 110 (f := .free "str") rfl))) (fun _ _ _ _ _ _ us hl => match us, hl with | [_], _ => rfl)
  have kLu := kn_of (P := P) (w := w) (base := base) (st := s__law_number_in) (He.glo_ok KX G (c.t.d.fact 75 (f := .glo "_law_number_in") rfl)) F__law_number_in (ok_lnum F__law_number_in (He.free_ok KX G (c.t.d.fact 103 (f := .free "len") rfl)) (He.free_ok KX G (c.t.d.fact 101 (f := .free "int") rfl))) (fun _ _ _ _ _ _ us hl => match us, hl with | [_], _ => rfl)
  have kLp := kn_of (P := P) (w := w) (base := base) (st := s__law_pieces) (He.glo_ok KX G (c.t.d.fact 76 (f := .glo "_law_pieces") rfl)) F__law_pieces (ok_lpc F__law_pieces (He.free_ok KX G (c.t.d.fact 103 (f := .free "len") rfl)) (He.free_ok KX G (c.t.d.fact 108 (f := .free "range") rfl)) (He.free_ok KX G (c.t.d.fact 101 (f := .free "int") rfl))) (fun _ _ _ _ _ _ us hl => match us, hl with | [_], _ => rfl)
  have kLb := kn_of (P := P) (w := w) (base := base) (st := s__law_bits) (He.glo_ok KX G (c.t.d.fact 77 (f := .glo "_law_bits") rfl)) F__law_bits (ok_lbits F__law_bits (He.free_ok KX G (c.t.d.fact 108 (f := .free "range") rfl)) (He.free_ok KX G (c.t.d.fact 106 (f := .free "min") rfl)) (He.free_ok KX G (c.t.d.fact 105 (f := .free "max") rfl)) (He.free_ok KX G (c.t.d.fact 101 (f := .free "int") rfl))) (fun _ _ _ _ _ _ us hl => match us, hl with | [_, _, _], _ => rfl)
  have kLc := kn_of (P := P) (w := w) (base := base) (st := s__law_comes) (He.glo_ok KX G (c.t.d.fact 78 (f := .glo "_law_comes") rfl)) F__law_comes (ok_lcm F__law_comes kLb (He.free_ok KX G (c.t.d.fact 108 (f := .free "range") rfl))) (fun _ _ _ _ _ _ us hl => match us, hl with | [_, _, _], _ => rfl)
  have kLS := kn_of (P := P) (w := w) (base := base) (st := s__law_sum) (He.glo_ok KX G (c.t.d.fact 79 (f := .glo "_law_sum") rfl)) F__law_sum (ok_lsum F__law_sum kLp kLu kLn kLc) (fun _ _ _ _ _ _ us hl => match us, hl with | [_, _], _ => rfl)
  have kLm := kn_of (P := P) (w := w) (base := base) (st := s__law_some_sum) (He.glo_ok KX G (c.t.d.fact 80 (f := .glo "_law_some_sum") rfl)) F__law_some_sum (ok_some F__law_some_sum kDr (He.free_ok KX G (c.t.d.fact 103 (f := .free "len") rfl)) (He.free_ok KX G (c.t.d.fact 108 (f := .free "range") rfl)) (He.free_ok KX G (c.t.d.fact 101 (f := .free "int") rfl)) (He.free_ok KX G (c.t.d.fact 110 (f := .free "str") rfl))) (fun _ _ _ _ _ _ us hl => match us, hl with | [_, _], _ => rfl)
  have kLo := kn_of (P := P) (w := w) (base := base) (st := s__law_spoilt) (He.glo_ok KX G (c.t.d.fact 81 (f := .glo "_law_spoilt") rfl)) F__law_spoilt (ok_spoil F__law_spoilt kDr (He.free_ok KX G (c.t.d.fact 103 (f := .free "len") rfl)) (He.free_ok KX G (c.t.d.fact 101 (f := .free "int") rfl))) (fun _ _ _ _ _ _ us hl => match us, hl with | [_, _], _ => rfl)
  exact ok_law F rfl F__law_kind TB (kindR_of kRB) (He.glo_ok KX G (c.t.d.fact 0 (f := .glo "MillError") rfl)) (He.free_ok KX G (c.t.d.fact 102 (f := .free "isinstance") rfl)) (He.free_ok KX G (c.t.d.fact 96 (f := .free "ValueError") rfl)) (He.glo_ok KX G (c.t.d.fact 1 (f := .glo "BadDeed") rfl)) (He.glo_ok KX G (c.t.d.fact 2 (f := .glo "BadReach") rfl)) (He.glo_ok KX G (c.t.d.fact 3 (f := .glo "NoDeed") rfl)) (He.glo_ok KX G (c.t.d.fact 4 (f := .glo "BadCount") rfl)) (He.glo_ok KX G (c.t.d.fact 5 (f := .glo "NoMend") rfl)) (He.glo_ok KX G (c.t.d.fact 6 (f := .glo "BadImage") rfl)) (He.glo_ok KX G (c.t.d.fact 7 (f := .glo "BadGiven") rfl)) (He.glo_ok KX G (c.t.d.fact 8 (f := .glo "BadList") rfl)) (He.glo_ok KX G (c.t.d.fact 9 (f := .glo "BadRow") rfl)) (He.glo_ok KX G (c.t.d.fact 72 (f := .glo "_law_kind") rfl)) kSt kDr kSm kLm kLo kLS kAs (He.free_ok KX G (c.t.d.fact 109 (f := .free "sorted") rfl)) (He.free_ok KX G (c.t.d.fact 110 (f := .free "str") rfl)) (He.free_ok KX G (c.t.d.fact 108 (f := .free "range") rfl)) (He.free_ok KX G (c.t.d.fact 103 (f := .free "len") rfl)) (He.free_ok KX G (c.t.d.fact 104 (f := .free "list") rfl)) (He.free_ok KX G (c.t.d.fact 101 (f := .free "int") rfl))
end Bm
open PySem PySem.W PySem.Calls PyProof.Rows
set_option maxRecDepth 100000 in
set_option maxHeartbeats 0 in
theorem PySem.Challenge.cw_bitmill_k10_sums_reckoned_holds : PySem.Challenge.rw_bitmill_k10_sums_reckoned.Holds := by
  w_on; o_law
  refine HandSHeadRun.head_any (r := OpenLaw.row PySem.Challenge.rw_bitmill_k10_sums_reckoned) (q := view (OpenLaw.row PySem.Challenge.rw_bitmill_k10_sums_reckoned).prog [Bm.LAWI]) (H := Bm.hk) (ob := Bm.ob) (M := 20000) (loose := Bm.looseL) (d := HandSHeadRun.topDef (OpenLaw.row PySem.Challenge.rw_bitmill_k10_sums_reckoned).prog Bm.LAWI) (kwd := []) Bm.ob_eq
    (by kernel_rfl) (fun s => by kernel_rfl) Bm.run (by kernel_rfl) (by kernel_rfl) (by kernel_rfl) (by rfl) (by first | assumption | decide +kernel) (by decide +kernel) ⟨rfl, rfl, rfl, rfl, rfl, by decide +kernel⟩ ?hw ?hc
  case hw => w_witness2
  case hc =>
    refine LamX.walk_ofTsE (l := PySem.Challenge.rw_bitmill_k10_sums_reckoned) (n := 63) (k := 12) (x := "_law_script") (CX := fun _ => L2.CX0) rfl (by decide) (by kernel_rfl) ⟨rfl, by decide, by decide⟩ ?F (fun _ _ _ _ _ z => z)
    intro w mg fa h Y G hmg0
    obtain ⟨K, KX, c0⟩ := Y
    have c := c0.x
    have hmg : mg ("law" : PySem.Str) = some (.ref fa) := by
      have e : (HandSHeadRun.topDef (OpenLaw.row PySem.Challenge.rw_bitmill_k10_sums_reckoned).prog Bm.LAWI).name = ("law" : PySem.Str) := by kernel_rfl
      rw [← e]
      exact hmg0
    obtain ⟨fd, hb, hF⟩ := Bm.facts (P := (PySem.Challenge.rw_bitmill_k10_sums_reckoned).prog) (w := w) (by kernel_rfl) (by kernel_rfl) KX G hmg c0
    have m0 : (("law", none) : He.Defn) ∈ Bm.tfL := List.mem_cons_self ..
    refine ⟨K, KX, fd, [He.cT K ("law", none)], Bm.spLaw K (He.cT K ("law", none)).2, fun p hp => ?_, fun p hp => ?_, fun p hp => ?_, hb, fun H a ns hl _ hT hS => ⟨a, ns, rfl, hS, hl, hT _ (List.mem_cons_self ..), fun _ => rfl⟩, fun base hb1 hb2 hTB => hF base hb1 hb2 (hTB _ (List.mem_cons_self ..))⟩
    · rw [List.mem_singleton.mp hp]
      exact c.empty _ m0
    · rw [List.mem_singleton.mp hp]
      exact c.out _ m0
    · rw [List.mem_singleton.mp hp]
      exact PySem.W.codeHd_of_K KX (c.hd _ m0)
