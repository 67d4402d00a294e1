import PyProof.Rows.All
import Wide.All
import OpenK.AllK
import Wide.FinOn
import PyProof.Rows.MatchSeqLen
import HandS.Base
import HandS.Call
import HandS.List
import HandS.ForMost
import HandS.Exc
import HandS.TryOnly
import HandS.Defaults
import HandS.Conv
import HandS.Strs
import HandS.IsInst
import HandS.Zip
import HandS.Deep
import HandS.TupAny
import HandS.Evl
import KE.KExcSuper
import HandS.ExcSuper
import HandS.ExcInit
import HandS.Nested
import HandS.FStr
import HandS.HeadHook1
import HandS.HeadHook2
import HandS.HeadHook3
import HandS.HeadHook4
import HandS.ExcIs
import HandS.ExcField
import KE.KStateDown
import Lean
import HandS.Codes
import HandS.Lambda
import HandS.Head0
import HandS.Head1
import HandS.Head2
import HandS.HeadEnd
import HandS.HeadWalk
import HandS.Text
import KE.BitLaws
import PyProof.FString3
import PyProof.Rows.StrIntSpec
import PyProof.StrOps2
import PyProof.StrLaws
import HandS.StrMore
import HandS.Walk
import KE.GoesMore
import KE.GoesEnum
import HandS.Iter
import HandS.ExcOwn
import KE.KBits
import HandS.Style
import HandS.Dict
import KE.KExcIs
import HandS.DictComp
import HandS.Small
import HandS.NoneIn
import KE.KTupSum
import HandS.Wide
import PySem.Challenge.RW_bitmill_k16_images_shown
set_option Elab.async false
set_option linter.all false
set_option maxRecDepth 100000
set_option maxHeartbeats 200000
namespace Bm
open PySem PySem.Spec PyProof.Rows L2
abbrev PK := Option (List (Nat × V)) → Hp → Prop
abbrev TPt := V → Hp → PK → Prop
def Bnd (X : Cx) : List (Str × Value) → List (Nat × V) → Prop := Paired fun p q => (X.N[q.1]? = some p.1 ∧ Loc X.env.scope p.1 ∧ (X.fn p.1 = true ∨ X.env.scope.names.lookup p.1 = some .local)) ∧ RelV q.2 p.2
theorem Bnd.app {X : Cx} : ∀ {a c : List (Str × Value)} {b d : List (Nat × V)}, Bnd X a b → Bnd X c d → Bnd X (a ++ c) (b ++ d)
  | [], _, [], _, _, h => h
  | _ :: _, _, _ :: _, _, .cons r t, h => .cons r (Bnd.app t h)
def PRel (X : Cx) : Option (List (Str × Value)) → Option (List (Nat × V)) → Prop
  | none, none => True
  | some b, some c => Bnd X b c
  | _, _ => False
def PtP (X : Cx) (pins : List (Addr × Obj)) (σ : L2.St) (k : PK) (r : Option (List (Str × Value))) (s' : Shared) : Prop := ∃ ro H', Inv X pins σ H' s' ∧ PRel X r ro ∧ k ro H'
structure PPt (X : Cx) (p : Pattern) (t : TPt) : Prop where
  run : ∀ (pins : List (Addr × Obj)) (s : Shared) (σ : L2.St) (H : Hp) (v : V) (u : Value) (k : PK), Inv X pins σ H s → RelV v u → t v H k →
    wpAny (model X.prog X.w) X.A (matchPattern p X.env u) (PtP X pins σ k) X.xe s
structure PPs (X : Cx) (ps : List Pattern) (t : List V → Hp → PK → Prop) : Prop where
  run : ∀ (pins : List (Addr × Obj)) (s : Shared) (σ : L2.St) (H : Hp) (vs : List V) (us : List Value) (k : PK), Inv X pins σ H s → Vals vs us → t vs H k →
    wpAny (model X.prog X.w) X.A (matchEach ps X.env us) (PtP X pins σ k) X.xe s
section
variable {X : Cx}
/-- a written text (or number): equal or not -/
def tPv (c : V) : TPt := fun v H k => scal v c = true ∧ k (if v = c then some [] else none) H
theorem pp_val {e : Expr} {c : V} {pos : Pos} (he : PE X e (tC c)) : PPt X (.MatchValue e pos) (tPv c) := by
  refine ⟨fun pins s σ H v u k I r h => ?_⟩
  obtain ⟨h1, h2⟩ := h
  refine wpAny_matchPattern_Value (thn (he.run pins s σ H (fun x H1 => x = c ∧ H1 = H) I ⟨rfl, rfl⟩) fun x s1 ⟨y, H1, I1, r1, e1, e2⟩ => ?_)
  subst e1 e2
  refine thn (op_eq pins s1 σ H1 v y u x (fun z H2 => z = .bl (decide (v = y)) ∧ H2 = H1) I1 r r1 ⟨h1, rfl, rfl⟩) fun z s2 ⟨w, H2, I2, r2, e1, e2⟩ => ?_
  subst e1 e2
  cases r2
  refine wpAny_truthy_bool ?_
  by_cases q : v = y
  · rw [decide_eq_true q]
    rw [if_pos q] at h2
    exact ⟨some [], H2, I2, .nil, h2⟩
  · rw [decide_eq_false q]
    rw [if_neg q] at h2
    exact ⟨none, H2, I2, True.intro, h2⟩
/-- a name -/
def tPn (i : Nat) : TPt := fun v H k => k (some [(i, v)]) H
theorem pp_name {i : Nat} {x : Str} {pos : Pos} (hi : X.N[i]? = some x) (hx : Loc X.env.scope x) (hf : X.fn x = true ∨ X.env.scope.names.lookup x = some .local := by first | exact .inl rfl | exact .inr rfl) : PPt X (.MatchAs none (some x) pos) (tPn i) := by
  refine ⟨fun pins s σ H v u k I r h => ?_⟩
  exact wpAny_matchPattern_Capture ⟨some [(i, v)], H, I, .cons ⟨⟨hi, hx, hf⟩, r⟩ .nil, h⟩
/-- whatever it is -/
def tPw : TPt := fun _ H k => k (some []) H
theorem pp_wild {pos : Pos} : PPt X (.MatchAs none none pos) tPw := ⟨fun pins s σ H v u k I r h => wpAny_matchPattern_Capture ⟨some [], H, I, .nil, h⟩⟩
def tPnil : List V → Hp → PK → Prop := fun vs H k => vs = [] ∧ k (some []) H
def tPcons (t : TPt) (u : List V → Hp → PK → Prop) : List V → Hp → PK → Prop := fun vs H k => ∃ v r, vs = v :: r ∧ t v H fun a H1 => match a with
  | none => k none H1
  | some b => u r H1 fun c H2 => match c with
    | none => k none H2
    | some d => k (some (b ++ d)) H2
theorem pps_nil : PPs X [] tPnil := ⟨fun pins s σ H vs us k I r h => by
  obtain ⟨e, h⟩ := h
  subst e
  cases r
  exact wpAny_matchEach_nil ⟨some [], H, I, .nil, h⟩⟩
theorem pps_cons {p : Pattern} {ps : List Pattern} {t : TPt} {u : List V → Hp → PK → Prop} (h1 : PPt X p t) (h2 : PPs X ps u) (hp : p.isStar = false := by rfl) : PPs X (p :: ps) (tPcons t u) := by
  refine ⟨fun pins s σ H vs us k I r h => ?_⟩
  obtain ⟨v, vr, e, h⟩ := h
  subst e
  cases r with
  | cons r rr =>
    refine wpAny_matchEach_cons (thn (h1.run pins s σ H v _ _ I r h) fun a s1 ⟨ro, H1, I1, rel, q⟩ => ?_) hp
    cases a with
    | none =>
      cases ro with
      | none => exact ⟨none, H1, I1, True.intro, q⟩
      | some _ => exact rel.elim
    | some bs =>
      cases ro with
      | none => exact rel.elim
      | some b =>
        refine thn (h2.run pins s1 σ H1 vr _ _ I1 rr q) fun c s2 ⟨rc, H2, I2, rel2, q2⟩ => ?_
        cases c with
        | none =>
          cases rc with
          | none => exact ⟨none, H2, I2, True.intro, q2⟩
          | some _ => exact rel2.elim
        | some cs =>
          cases rc with
          | none => exact rel2.elim
          | some d => exact ⟨some (b ++ d), H2, I2, Bnd.app rel rel2, q2⟩
/-- (p, q, ..) of a tuple -/
def tPseq (K : PySem.W.Frag) (n : Nat) (t : List V → Hp → PK → Prop) : TPt := fun v H k => ∃ a xs, v = .ref a ∧ SqT K H a xs ∧ if xs.length = n then t xs H k else k none H
theorem line63 {n : Nat} (h : n ≤ sizeLine) : (n : Int) < 2 ^ 63 := by
  have e : sizeLine = 16777216 := sizeLine_eq
  omega
theorem pp_seq {ps : List Pattern} {pos : Pos} {n : Nat} {t : List V → Hp → PK → Prop} (hc : X.calm = true) (h : PPs X ps t) (hn : ps.length = n := by rfl) (hstar : ps.findIdx? (·.isStar) = none := by rfl)
    (hwild : (ps.all fun p => p.isWildcard || (p.isStar && p.names.isEmpty)) = false := by rfl) : PPt X (.MatchSequence ps pos) (tPseq X.K n t) := by
  refine ⟨fun pins s σ H v u k I r hw => ?_⟩
  obtain ⟨a, xs, e, hq, hw⟩ := hw
  subst e hn
  cases r
  obtain ⟨its, rv, ht, hz⟩ := I.tuple hq
  have hl := rv.length
  have fit : ((its.toArray.size : Nat) : Int) < 2 ^ 63 := by
    rw [List.size_toArray, ← hl]
    exact line63 hz
  by_cases q : xs.length = ps.length
  · rw [if_pos q] at hw
    have en : its.toArray.size = ps.length := by rw [List.size_toArray, ← hl, q]
    refine matchSeq_tuple_hit ht fit en ?_ hstar hwild
    rw [← en]
    refine unpackItems_tuple (I.ok.hd hc) ht fun h' hx => ?_
    have I1 := I.tok (s.toks + 1 + 1)
    have I2 := I1.kept (h' := h') (t' := s.toks + 1 + 1) fun b o e => hx b o (Nat.ne_of_lt (Heap.lt_size e)) e
    exact h.run pins _ σ H xs _ k I2 (by simpa using rv) hw
  · rw [if_neg q] at hw
    refine matchSeq_tuple_miss ht fit (fun z => q ?_) ⟨none, H, I.tok _, True.intro, hw⟩ hstar hwild
    rw [← z, List.size_toArray, hl]
/-- either of two or more -/
def tPfirst (t : TPt) (u : TPt) : TPt := fun v H k => t v H fun a H1 => match a with
  | some b => k (some b) H1
  | none => u v H1 k
structure PPf (X : Cx) (ps : List Pattern) (t : TPt) : Prop where
  run : ∀ (pins : List (Addr × Obj)) (s : Shared) (σ : L2.St) (H : Hp) (v : V) (u : Value) (k : PK), Inv X pins σ H s → RelV v u → t v H k →
    wpAny (model X.prog X.w) X.A (matchFirst ps X.env u) (PtP X pins σ k) X.xe s
theorem ppf_nil : PPf X [] (fun _ H k => k none H) := ⟨fun pins s σ H v u k I r h => wpAny_matchFirst_nil ⟨none, H, I, True.intro, h⟩⟩
theorem ppf_cons {p : Pattern} {ps : List Pattern} {t u : TPt} (h1 : PPt X p t) (h2 : PPf X ps u) : PPf X (p :: ps) (tPfirst t u) := by
  refine ⟨fun pins s σ H v w k I r h => ?_⟩
  refine wpAny_matchFirst_cons (thn (h1.run pins s σ H v w _ I r h) fun a s1 ⟨ro, H1, I1, rel, q⟩ => ?_)
  cases a with
  | none =>
    cases ro with
    | none => exact h2.run pins s1 σ H1 v w k I1 r q
    | some _ => exact rel.elim
  | some bs =>
    cases ro with
    | none => exact rel.elim
    | some b => exact ⟨some b, H1, I1, rel, q⟩
/-- texts in a row, with no names: "jump" | "call" -/
def tPor (t : TPt) : TPt := fun v H k => t v H fun a H1 => match a with
  | some _ => k (some []) H1
  | none => k none H1
theorem pp_or {ps : List Pattern} {pos : Pos} {t : TPt} (h : PPf X ps t) (hn : namesOfAll (ps.take 1) = [] := by rfl) : PPt X (.MatchOr ps pos) (tPor t) := by
  refine ⟨fun pins s σ H v u k I r hw => ?_⟩
  refine wpAny_matchPattern_Or (thn (h.run pins s σ H v u _ I r hw) fun a s1 ⟨ro, H1, I1, rel, q⟩ => ?_)
  cases a with
  | none =>
    cases ro with
    | none => exact ⟨none, H1, I1, True.intro, q⟩
    | some _ => exact rel.elim
  | some bs =>
    cases ro with
    | none => exact rel.elim
    | some b =>
      show PtP X pins σ k (some ((namesOfAll (ps.take 1)).filterMap fun n => (bs.lookup n).map (n, ·))) s1
      rw [hn]
      exact ⟨some [], H1, I1, .nil, q⟩
/-- the slots that the names of a pattern get, one after another -/
def setAll : List (Nat × V) → L2.St → L2.St
  | [], σ => σ
  | (i, v) :: r, σ => setAll r (σ.set i (some v))
theorem bind_all {M : Model} {E : Value → Shared → Prop} {pins : List (Addr × Obj)} {H : Hp} {A : Around} (hN : X.N.Nodup) {bs : List (Str × Value)} {cs : List (Nat × V)} (B : Bnd X bs cs) : ∀ {σ : L2.St} {s : Shared} {Q : Unit → Shared → Prop}, Inv X pins σ H s →
    (∀ s', Inv X pins (setAll cs σ) H s' → Q () s') → wpAny M A (assignInOrder (bs.map fun (n, _) => bindName X.env n) (bs.map (·.2))) Q E s := by
  induction bs generalizing cs with
  | nil =>
    intro σ s Q I h
    cases B
    exact wpAny_assignInOrder_none (h s I)
  | cons p bs ih =>
    intro σ s Q I h
    cases cs with
    | nil => cases B
    | cons q cs =>
      have B1 : ((X.N[q.1]? = some p.1 ∧ Loc X.env.scope p.1 ∧ (X.fn p.1 = true ∨ X.env.scope.names.lookup p.1 = some .local)) ∧ RelV q.2 p.2) ∧ Bnd X bs cs := by
        cases B with
        | cons r t => exact ⟨r, t⟩
      obtain ⟨⟨⟨hi, hx, hf⟩, r⟩, t⟩ := B1
      refine wpAny_assignInOrder_more (wpAny_bindName (store_ok I hN hi hx r (fun s' I' => ?_) hf))
      exact ih t I' h
abbrev TCs := V → TS
structure PCs (X : Cx) (cs : List MatchCase) (t : TCs) : Prop where
  run : ∀ (first : Bool) (pins : List (Addr × Obj)) (s : Shared) (σ : L2.St) (H : Hp) (v : V) (u : Value) (D : Ends), Inv X pins σ H s → RelV v u → t v D σ H →
    wpAny (model X.prog X.w) X.A (matchCases cs X.env u first) (SP X pins D) X.xe s
def tCsNil : TCs := fun _ D σ H => D.nx σ H
theorem pcs_nil : PCs X [] tCsNil := ⟨fun first pins s σ H v u D I r h => wpAny_matchCases_nil ⟨σ, H, I, h⟩⟩
def tCs (p : TPt) (b : TS) (t : TCs) : TCs := fun v D σ H => p v H fun a H1 => match a with
  | none => t v D σ H1
  | some cs => b D (setAll cs σ) H1
theorem pcs_cons {p : Pattern} {body : List Stmt} {rest : List MatchCase} {tp : TPt} {b : TS} {t : TCs} (hN : X.N.Nodup) (hp : PPt X p tp) (hb : PSs X body b) (hr : PCs X rest t) : PCs X (⟨p, none, body⟩ :: rest) (tCs tp b t) := by
  refine ⟨fun first pins s σ H v u D I r h => ?_⟩
  refine wpAny_matchCases_cons (thn (hp.run pins s σ H v u _ I r h) fun a s1 ⟨ro, H1, I1, rel, q⟩ => ?_)
  cases a with
  | none =>
    cases ro with
    | none => exact hr.run false pins s1 σ H1 v u D I1 r q
    | some _ => exact rel.elim
  | some bs =>
    cases ro with
    | none => exact rel.elim
    | some cs => exact bind_all hN rel I1 fun s2 I2 => hb.run pins s2 _ H1 D I2 q
def tMatch (te : TE) (t : TCs) : TS := fun D σ H => te σ H fun v H1 => t v D σ H1
theorem ps_match {e : Expr} {cs : List MatchCase} {pos : Pos} {te : TE} {t : TCs} (he : PE X e te) (h : PCs X cs t) : PS X (.Match e cs pos) (tMatch te t) := by
  refine ⟨fun pins s σ H D I hw => ?_⟩
  exact wpAny_Match (thn (he.run pins s σ H _ I hw) fun u s1 ⟨v, H1, I1, r1, q1⟩ => h.run true pins s1 σ H1 v u D I1 r1 q1)
end
end Bm
set_option maxHeartbeats 400000
namespace Bm
open PySem PySem.Spec PyProof.Rows L2
/-! a def known by its name, the values that stand for what a call leaves out -/
structure Kn (P : Program) (w : World) (K : PySem.W.Frag) (mg : Str → Option Value) (base : Heap) (CX : CXT) (k : Nat) (x : Str) (ps : List Str) (dvs : List V) (sp : Sp) : Prop where
  ex : ∃ (f : Addr) (fd : FuncData) (ds : List Value), mg x = some (.ref f) ∧ PySem.W.keepIn K (.ref f) = true ∧ FnOk P w K mg base CX k f fd ps sp ∧ Binds K fd ps ds ∧ Vals dvs ds
section
variable {X : Cx} {CX : CXT} {k j : Nat} {x : Str} {ps : List Str} {dvs : List V} {sp : Sp} {E : XK} {p pos : Pos} {e : Expr} {es : List Expr} {t : TA}
theorem pk (n : Kn X.prog X.w X.K X.mg X.base CX k x ps dvs sp) (hr : Room j X.A) (hj : k ≤ j) (hg : Gl X x) (hx : Passes CX X E) (ha : PA X (e :: es) t) (hdb : (x == ("__debug__" : Str)) = false := by decide)
    (star1 : starEach (e :: es) X.env = (false, eval e X.env) :: starEach es X.env := by rfl) (star2 : (backTo pos (starEach es X.env)).any (·.1) = false := by rfl) : PE X (.Call (.Name x p) (e :: es) [] pos) (tCall sp dvs E t) := by
  obtain ⟨f, fd, ds, h1, h2, h3, h4, h5⟩ := n.ex
  exact pe_call h3 (hr.mono hj) hg h1 h2 h4 h5 hx ha (by first | exact hdb | exact star1 | exact star2) (by first | exact hdb | exact star1 | exact star2) (by first | exact hdb | exact star1 | exact star2)
theorem pk0 (n : Kn X.prog X.w X.K X.mg X.base CX k x ps dvs sp) (hr : Room j X.A) (hj : k ≤ j) (hg : Gl X x) (hx : Passes CX X E) (hdb : (x == ("__debug__" : Str)) = false := by decide) :
    PE X (.Call (.Name x p) [] [] pos) (tCall sp dvs E tNil) := by
  obtain ⟨f, fd, ds, h1, h2, h3, h4, h5⟩ := n.ex
  exact pe_call0 h3 (hr.mono hj) hg h1 h2 h4 h5 hx hdb
end
theorem Same.tup {K : PySem.W.Frag} {H H' : Hp} {a : Addr} {xs : List V} (e : Same H H') (h : SqT K H a xs) : SqT K H' a xs := by
  rcases h with (h | ⟨o, h⟩) | h
  · exact .inl (.inl (e _ _ h))
  · exact .inl (.inr ⟨o, e _ _ h⟩)
  · exact .inr h
theorem Same.add {H : Hp} {p : Addr} {o : HO} (h : H p = none) : Same H (upd H p o) := fun b u q => by
  rw [upd_ne (ne_of_none q h)]
  exact q
/-- a thing just laid, told by what stays -/
theorem laid {o : HO} {H : Hp} {Q : VK} (h : ∀ p H1, H p = none → Same H H1 → H1 p = some o → Q (.ref p) H1) : ∀ p, H p = none → Q (.ref p) (upd H p o) := fun p hp => h p _ hp (Same.add hp) upd_same
theorem line5 {n : Nat} (h : n ≤ 100000) : n ≤ sizeLine := Nat.le_trans h (by decide)
end Bm
set_option maxHeartbeats 1000000
namespace Bm
open PySem PySem.Spec PyProof.Rows L2
section
variable {X : Cx} {pins : List (Addr × Obj)} {σ : L2.St} {H : Hp} {s : Shared} {a C D f cc cda : Addr}
/-- a thing that is laid and not told of in H: it is pinned -/
theorem pin_new {h2 : Heap} {u : Addr} {o : Obj} {t' : Nat} (I : Inv X pins σ H s) (hu : s.heap.objs.size ≤ u) (e : h2.get? u = some o) (k : ∀ b v, s.heap.get? b = some v → h2.get? b = some v) (nc : ∀ v, o.data ≠ .cell v) :
    Inv X ((u, o) :: pins) σ H { s with heap := h2, toks := t' } := by
  have I1 : Inv X pins σ H { s with heap := h2, toks := t' } := I.kept k
  obtain ⟨f0, f1, f2, _⟩ := I.fpOk hu (I.hok.fresh hu)
  refine I1.pins_of fun p hp => ?_
  rcases List.mem_cons.mp hp with rfl | hp
  · exact ⟨e, f0, f1, f2, nc⟩
  · exact I1.pin p (List.mem_append_right _ hp)
theorem unpin {p : Addr × Obj} (I : Inv X (p :: pins) σ H s) : Inv X pins σ H s := I.pins_of fun q hq => I.pin q (List.mem_append_right _ (List.mem_cons_of_mem _ hq))
/-- the wrapped __init__ of the built-in class, called -/
theorem call_mw {u : Addr} {rest : List Value} {Q : Value → Shared → Prop} {A : Around} {E : Value → Shared → Prop} (T : OexC X.K C) (I : Inv X pins σ H s) (e : H a = some (exo a C none)) (hu : s.heap.get? u = some (PySem.W.kxs_mw "ValueError.__init__" a)) (hl : rest.length ≤ sizeLine)
    (h : ∀ s', Inv X pins σ H s' → Q .none s') : wpAny (model X.prog X.w) A (call (.ref u) rest) Q E s := by
  obtain ⟨nm, q, N, bs, bm, sn, sub, ab, col, dd, k0, k1, k2, k3, k5, hC, hbm⟩ := T.cls
  obtain ⟨t1, ho⟩ := exo_at I.hok e
  have hC' := I.kIn _ _ hC
  have fin : ∀ h2 t2, (∀ b o, b ≠ a → s.heap.get? b = some o → h2.get? b = some o) → h2.get? a = some ({ cls := .ref C, dict := none, data := .fields #[.ref t2, .none, .none, .none, .bool false, .none] } : Obj) → Q .none { s with heap := h2 } := fun h2 t2 k hx => by
    have J := I.write (t' := s.toks) (x := a) (e := a) (o := exo a C none) (by rw [e]; exact True.intro) (.inl rfl) k ⟨_, hx⟩ (exo_ok hx)
    have eu : upd H a (exo a C none) = H := by
      funext b
      by_cases hb : b = a
      · rw [hb, upd_same, e]
      · rw [upd_ne hb]
    rw [eu] at J
    exact h _ J
  obtain ⟨hp, g, d, t, os⟩ := s
  refine wpAny_call (codeAny_of_tree ?_)
  show wpAny _ A.in1 (callAny (.ref u) ⟨rest, []⟩) _ _ _
  simp only [callAny]
  refine wpAny_bind (wpAny_load hu ?_)
  simp only [PySem.W.kxs_mw, show (Value.type "method-wrapper" == Value.type "method" || Value.type "method-wrapper" == Value.type "builtin_function_or_method" || Value.type "method-wrapper" == Value.type "method-wrapper") = true by decide, if_true]
  refine PySem.W.KFB.if_so (by decide) ?_
  refine wpAny_bind (PySem.W.check_bound_init F.excBase_ValueError.toExcCallFacts hC' ho rfl ?_)
  refine wpAny_bind (wpAny_pure (wpAny_pure ?_))
  refine ⟨plainId_quiet F.excBase_ValueError.init.plain _, codeAny_builtin F.excBase_ValueError.initEntry ?_⟩
  exact PySem.W.exc_init_tree (cls := .ref C) (t0 := t1) (dv := none) (c2 := .none) (c3 := .none) (b4 := .bool false) ho hl fun h2 k e2 _ => fin h2 _ k e2
end
/-- what the written part says of a method that calls super -/
structure SupF (P : Program) (K : PySem.W.Frag) (C f cell cda : Addr) (params : Arguments) (fd : FuncData) : Prop where
  lk : ∃ oc od osl, K.lookup f = some ⟨oc, od, .func fd, osl⟩
  pa : fd.params = params
  file : ∃ (oc : Value) (od : Option Addr) (vs : Array Value) (sl : Array (Option Value)) (fl : Str) (tf : Tok), K.lookup cda = some ⟨oc, od, .fields vs, sl⟩ ∧ vs[2]? = some (.str fl tf) ∧ ((P.main.file : Str) == fl) = true
  cell : ∃ (oc : Value) (od : Option Addr) (sl : Array (Option Value)), K.lookup cell = some ⟨oc, od, .cell (some (.ref C)), sl⟩
  cls : (PySem.W.clsIn K C).isSome = true
  self : PySem.W.mroIn K C (.ref C) = some true
  along : PySem.W.ks_superIn K C C "__init__" = some (some (.builtin "ValueError.__init__"))
  sub : PySem.W.subIn K (.ref C) (.type "ValueError") = some true
  stat : PySem.W.nsIn K cStatics "thirdparty.any" = some none
  top : (P.main.scope.names.lookup ("super" : Str)).isSome = false
section
variable {X : Cx} {pins : List (Addr × Obj)} {σ : L2.St} {H : Hp} {s : Shared} {a C f cc cda : Addr} {params : Arguments} {fd : FuncData}
/-- super() -/
theorem super_node {body : List Stmt} {p0 p1 : Pos} {attr : Str} {whole : Sem Value} {ar : Arg} {Q : Value → Shared → Prop} (F : SupF X.prog X.K C f cc cda params fd) (I : Inv X pins σ H s) (T : OexC X.K C) (ha : H a = some (exo a C none))
    (hfu : X.env.func = some f) (hco : X.env.code = .ref cda) (hce : X.env.cells.lookup ("__class__" : Str) = some cc) (hp : (params.posonlyargs ++ params.args).head? = some ar) (i : Nat) (hN : X.N[i]? = some ar.arg) (hσ : σ[i]? = some (some (.ref a)))
    (hat : (attr == ("__class__" : Str)) = false) (hks : X.env.kindOf ("super" : Str) = some .globalImplicit) (hkc : X.env.kindOf ("__class__" : Str) = some .free) (hka : X.env.kindOf ar.arg = some .local) (hm : X.mg "super" = none)
    (h : ∀ so s', Inv X ((so, PySem.W.ks_superObj C a C) :: pins) σ H s' → Q (.ref so) s') :
    _root_.PySem.wpAt (model X.prog X.w) X.A (.func body X.env) (attributeBase (.Call (.Name "super" p0) [] [] p1) attr X.env whole) Q X.xe s := by
  obtain ⟨oc1, od1, osl1, lk⟩ := F.lk
  obtain ⟨oc2, od2, vs2, sl2, fl, tf, hcode, hvs, hfile⟩ := F.file
  obtain ⟨oc3, od3, sl3, hcell⟩ := F.cell
  obtain ⟨cd, hcd⟩ := Option.isSome_iff_exists.mp F.cls
  have KX := I.kIn
  obtain ⟨oD, hD1, hD2⟩ : ∃ oD, s.heap.get? C = some oD ∧ oD.data = .cls cd := by
    unfold PySem.W.clsIn at hcd
    split at hcd
    · rename_i c d cd' sl ho
      cases hcd
      exact ⟨_, KX _ _ ho, rfl⟩
    · cases hcd
  obtain ⟨t1, ho⟩ := exo_at I.hok ha
  have hk := I.ok.kind
  refine ks_wpAt_super_base hks hkc hat hfu (KX _ _ lk) rfl (by rw [F.pa]; exact hp) hco (KX _ _ hcode) rfl hvs hfile F.top ?_
  obtain ⟨mb, b1, b2⟩ := I.mod.blt
  refine PySem.W.ks_loadName_global hk hks (Calls.loadGlobal_builtin (by rw [I.ok.glob]; exact I.mod.glob.keeps I.bk) hm (by rw [I.ok.blt]; exact b1.keeps I.bk) ((b2 _ (by decide +kernel)).trans PyProof.Rows.Boot.«super») ⟨rfl, ?_⟩)
  refine wpAny_loadName_free hk hkc hce ⟨_, KX _ _ hcell, rfl⟩ ?_
  obtain ⟨m, hn, hl⟩ := I.loc
  obtain ⟨v, rv, lv⟩ := hl i ar.arg (.ref a) hN hσ (.inl hka)
  obtain rfl : v = Value.ref a := rv
  have hv : m ar.arg = some (.ref a) := by
    rcases lv with ⟨_, z⟩ | ⟨z, _⟩
    · exact z
    · rcases z with z | z <;> rw [hka] at z <;> cases z
  refine wpAny_loadName_local hk hka hn hv ?_
  obtain ⟨hh, g, d, t, os⟩ := s
  refine ks_wpAny_isType_cls hD1 hD2 ⟨rfl, ?_⟩
  refine ks_wpAny_call_super hD1 hD2 ho rfl (fun c e => by cases e) (PySem.W.looks_mroIn KX F.self) (fun h2 e k => ?_)
  exact h _ _ (pin_new (t' := t) I (Nat.le_refl _) e k fun v z => by cases z)
/-- its __init__, looked up -/
theorem super_meth {so : Addr} {pl : Sem Bool} {Q : Value × List Value → Shared → Prop} {A : Around} {E : Value → Shared → Prop} (F : SupF X.prog X.K C f cc cda params fd) (I : Inv X ((so, PySem.W.ks_superObj C a C) :: pins) σ H s) (ha : H a = some (exo a C none))
    (h : ∀ u s', Inv X ((u, PySem.W.kxs_mw "ValueError.__init__" a) :: pins) σ H s' → Q (.ref u, []) s') : wpAny (model X.prog X.w) A (getMethod (.ref so) "__init__" pl) Q E s := by
  have KX := I.kIn
  obtain ⟨cd, hcd⟩ := Option.isSome_iff_exists.mp F.cls
  have al := F.along
  unfold PySem.W.ks_superIn at al
  rw [hcd] at al
  obtain ⟨t1, ho⟩ := exo_at I.hok ha
  have hso := (I.pin (so, PySem.W.ks_superObj C a C) (List.mem_append_right _ List.mem_cons_self)).1
  have IA : PySem.W.InstAt s.heap a ({ cls := .ref C, dict := none, data := .fields #[.ref t1, .none, .none, .none, .bool false, .none] } : Obj) C none := ⟨ho, rfl, rfl, trivial⟩
  have hI : PySem.W.Looks (model X.prog X.w) s.heap (isInstance (.ref a) (.type "ValueError")) true := IA.type.andThen (PySem.W.looks_subIn KX F.sub)
  have I0 := unpin I
  obtain ⟨hh, g, d, t, os⟩ := s
  refine PySem.W.kxs_getMethod PySem.W.kxs_ValueError hso (PySem.W.looks_opaque KX F.stat) (l₀ := cd.mro) ?_ rfl KX al hI (PySem.W.ks_ne KX IA hcd) (by decide +kernel) ?_
  · exact fun A Q E s k q => wpAny_bind ((PySem.W.looks_clsIn KX hcd) A _ E s k (wpAny_pure q))
  · exact h _ _ (pin_new (t' := t + 1) I0 (Nat.le_refl _) (Heap.get?_push_at rfl rfl) (fun b o e => Heap.get?_push_of_some _ e) fun v z => by cases z)
/-- super().__init__(e), then the rest -/
theorem super_init {body rest : List Stmt} {p0 p1 p2 p3 p4 : Pos} {e : Expr} {te : TE} {tr : TS} {ar : Arg} {D : Ends} {pl : Sem Bool} (F : SupF X.prog X.K C f cc cda params fd) (I : Inv X [] σ H s) (T : OexC X.K C) (ha : H a = some (exo a C none))
    (hfu : X.env.func = some f) (hco : X.env.code = .ref cda) (hce : X.env.cells.lookup ("__class__" : Str) = some cc) (hp : (params.posonlyargs ++ params.args).head? = some ar) (i : Nat) (hN : X.N[i]? = some ar.arg) (hσ : σ[i]? = some (some (.ref a)))
    (hks : X.env.kindOf ("super" : Str) = some .globalImplicit) (hkc : X.env.kindOf ("__class__" : Str) = some .free) (hka : X.env.kindOf ar.arg = some .local) (hm : X.mg "super" = none) (he : PE X e te) (hr : PSs X rest tr)
    (hq : te σ H fun x H1 => [x].length ≤ 1 ∧ H1 a = some (exo a C none) ∧ tr D σ H1)
    (hev : eval (.Call (.Attribute (.Call (.Name "super" p0) [] [] p1) "__init__" p2) [e] [] p3) X.env = (do
      let ov ← attributeBase (.Call (.Name "super" p0) [] [] p1) "__init__" X.env (eval (.Call (.Name "super" p0) [] [] p1) X.env)
      standAt p2.atName
      let (f, first) ← holding [ov] (getMethod ov "__init__" pl)
      callWith p3 f first (backTo p3 (starEach [e] X.env)) []) := by rfl)
    (hi : interactive X.env = false := by rfl) (hs : swapsWith (.Call (.Attribute (.Call (.Name "super" p0) [] [] p1) "__init__" p2) [e] [] p3) none p4.line X.env = pure false := by rfl)
    (hse : starEach [e] X.env = (false, eval e X.env) :: starEach [] X.env := by rfl) (hpl : (backTo p3 (starEach [] X.env)).any (·.1) = false := by rfl) :
    _root_.PySem.wpAt (model X.prog X.w) X.A (.func body X.env) (execs (.Expr (.Call (.Attribute (.Call (.Name "super" p0) [] [] p1) "__init__" p2) [e] [] p3) p4 :: rest) X.env) (SP X [] D) X.xe s := by
  refine ks_wpAt_execs_cons (ks_wpAt_Expr_any (ks_wpAt_MethodCall (super_node F I T ha hfu hco hce hp i hN hσ (by decide +kernel) hks hkc hka hm fun so s1 I1 => super_meth F I1 ha fun u s2 I2 => ?_) hev) hi hs)
  have hPA : PA X [e] (tCons te tNil) := pa_cons he pa_nil hse
  rw [hse]
  refine PySem.W.kxs_callWith (i := "ValueError.__init__") (x := a) (by show (false || (backTo p3 (starEach [] X.env)).any (·.1)) = false; rw [hpl]; rfl) (Calls.evalArgs_plain ?_)
  have run := hPA.run p3 [(u, PySem.W.kxs_mw "ValueError.__init__" a)] s2 σ H (fun vs H1 => vs.length ≤ 1 ∧ H1 a = some (exo a C none) ∧ tr D σ H1) I2 hq
  rw [hse] at run
  refine thn run fun us s3 hh => ?_
  obtain ⟨vs, H1, I3, r1, hl1, ha1, q1⟩ := hh
  have hu := (I3.pin (u, PySem.W.kxs_mw "ValueError.__init__" a) (List.mem_append_right _ List.mem_cons_self)).1
  exact ⟨hu, call_mw T (unpin I3) ha1 hu (show us.length ≤ sizeLine by rw [← r1.length]; exact line5 (Nat.le_trans hl1 (by decide))) fun s4 I4 => wpAt_of_wpAny (hr.run [] s4 σ H1 D I4 q1)⟩
end
end Bm
set_option maxHeartbeats 1000000
namespace Bm
open PySem PySem.Spec PyProof.Rows L2
section
variable {P : Program} {w : World} {K : PySem.W.Frag} {mg : Str → Option Value} {base : Heap} {CX : CXT} {N ps : List Str} {name qual : Str} {params : Arguments} {scope : Scope} {dV kV doc pm ct : Value} {an : Option Addr} {C f cell cda : Addr} {k : Nat} {sp : Sp}
  {rest : List Stmt} {p0 p1 p2 p3 p4 : Pos} {e : Expr} {ar : Arg}
/-- the words of the method, for a frame's context -/
abbrev MF (name qual : Str) (params : Arguments) (body : List Stmt) (scope : Scope) (cell cda : Addr) : NdefX.NF := ⟨name, qual, params, body, scope, [("__class__", cell)], cda⟩
abbrev superSt (p0 p1 p2 p3 p4 : Pos) (e : Expr) : Stmt := .Expr (.Call (.Attribute (.Call (.Name "super" p0) [] [] p1) "__init__" p2) [e] [] p3) p4
/-- THE RULE: an error's __init__ that calls super first -/
theorem init_fn (F : SupF P K C f cell cda params (PySem.W.fnX name qual params (superSt p0 p1 p2 p3 p4 e :: rest) scope [("__class__", cell)] dV kV doc pm an (.ref cda) ct)) (T : OexC K C) (hcd : PySem.W.codeIn K (.ref cda) qual = true) (S : NdefX.NScope N ps ["__class__"] scope)
    (hpa : (params.posonlyargs ++ params.args).head? = some ar) (hN : N[0]? = some ar.arg) (hks : scope.names.lookup ("super" : Str) = some .globalImplicit) (hka : scope.names.lookup ar.arg = some .local) (hm : mg "super" = none) (hint : ∀ L : Addr, interactive (NdefX.envF (MF name qual params (superSt p0 p1 p2 p3 p4 e :: rest) scope cell cda) f L) = false) (len : ∀ vs H Q E, sp vs H Q E → vs.length = ps.length)
    (hbody : ∀ (A : Around) (outer : List Env) (s : Shared) (H : Hp) (vs : List V) (Q : VK) (E : XK), sp vs H Q E → ∃ (te : TE) (tr : TS) (a : Addr) (pl : Sem Bool), vs[0]? = some (.ref a) ∧ H a = some (exo a C none) ∧
      PE (NdefX.ncx CX P w K mg base N (MF name qual params (superSt p0 p1 p2 p3 p4 e :: rest) scope cell cda) f A outer s H E) e te ∧ PSs (NdefX.ncx CX P w K mg base N (MF name qual params (superSt p0 p1 p2 p3 p4 e :: rest) scope cell cda) f A outer s H E) rest tr ∧
      eval (.Call (.Attribute (.Call (.Name "super" p0) [] [] p1) "__init__" p2) [e] [] p3) (NdefX.envF (MF name qual params (superSt p0 p1 p2 p3 p4 e :: rest) scope cell cda) f s.heap.objs.size) = (do
        let ov ← attributeBase (.Call (.Name "super" p0) [] [] p1) "__init__" (NdefX.envF (MF name qual params (superSt p0 p1 p2 p3 p4 e :: rest) scope cell cda) f s.heap.objs.size) (eval (.Call (.Name "super" p0) [] [] p1) (NdefX.envF (MF name qual params (superSt p0 p1 p2 p3 p4 e :: rest) scope cell cda) f s.heap.objs.size))
        standAt p2.atName
        let (f', first) ← holding [ov] (getMethod ov "__init__" pl)
        callWith p3 f' first (backTo p3 (starEach [e] (NdefX.envF (MF name qual params (superSt p0 p1 p2 p3 p4 e :: rest) scope cell cda) f s.heap.objs.size))) []) ∧
      swapsWith (.Call (.Attribute (.Call (.Name "super" p0) [] [] p1) "__init__" p2) [e] [] p3) none p4.line (NdefX.envF (MF name qual params (superSt p0 p1 p2 p3 p4 e :: rest) scope cell cda) f s.heap.objs.size) = pure false ∧
      starEach [e] (NdefX.envF (MF name qual params (superSt p0 p1 p2 p3 p4 e :: rest) scope cell cda) f s.heap.objs.size) = (false, eval e (NdefX.envF (MF name qual params (superSt p0 p1 p2 p3 p4 e :: rest) scope cell cda) f s.heap.objs.size)) :: starEach [] (NdefX.envF (MF name qual params (superSt p0 p1 p2 p3 p4 e :: rest) scope cell cda) f s.heap.objs.size) ∧
      te (NdefX.startF N vs [some (.ref C)]) H (fun x H1 => [x].length ≤ 1 ∧ H1 a = some (exo a C none) ∧ tr { nx := fun _ H2 => Q .non H2, rt := Q } (NdefX.startF N vs [some (.ref C)]) H1)) :
    FnOk P w K mg base CX (k + 1) f (PySem.W.fnX name qual params (superSt p0 p1 p2 p3 p4 e :: rest) scope [("__class__", cell)] dV kV doc pm an (.ref cda) ct) ps sp := by
  refine ⟨len, fun A outer s H args us vs Q E hr e0 hb r hsp => ?_⟩
  have hl := len _ _ _ _ hsp
  have KX : K.In s.heap := e0.mod.kin.keeps fun b o z => (e0.bs b o z).1
  have lim : s.heap.NoLimit := e0.mod.nolimit.keeps fun b o z => (e0.bs b o z).1
  obtain ⟨oc1, od1, osl1, lk⟩ := F.lk
  obtain ⟨oc3, od3, sl3, hcell⟩ := F.cell
  obtain ⟨te, tr, a, pl, hv0, ha, he, hr', hev, hsw, hse, hq⟩ := hbody A outer s H vs Q E hsp
  have hcl : H cell = none ∧ s.heap.IsCell cell (some (.ref C)) := ⟨(e0.bs _ _ (e0.mod.kin _ _ hcell)).2, _, KX _ _ hcell, rfl⟩
  have CA : NdefX.CellsAt [("__class__", cell)] ["__class__"] [some (.ref C)] s.heap H := by
    have look : ∀ y c, ([("__class__", cell)] : List (Str × Addr)).lookup y = some c → y = "__class__" ∧ c = cell := fun y c z => by
      rw [List.lookup_cons] at z
      by_cases q : y = "__class__"
      · subst q
        rw [beq_self_eq_true] at z
        exact ⟨rfl, (Option.some.inj z).symm⟩
      · rw [beq_eq_false_iff_ne.mpr q] at z
        cases z
    refine ⟨rfl, fun y c z => ?_, fun x y c z1 z2 => by rw [(look _ _ z1).1, (look _ _ z2).1], fun i y z => ?_⟩
    · rw [(look _ _ z).2]
      exact ⟨hcl.1, _, hcl.2⟩
    · cases i with
      | succ i => cases z
      | zero =>
        cases z
        exact ⟨cell, rfl, fun v z => by
          have z1 : some (some (V.ref C)) = some (some v) := z
          cases z1
          exact ⟨.ref C, rfl, hcl.2⟩⟩
  refine ks_codeAny_call_defAt (binds := ps.zip us) hr.depth (KX _ _ lk) rfl lim (PySem.W.codeRec_of KX hcd) rfl hb S.nocell (fun ⟨n, _⟩ hy => S.par n (List.of_mem_zip hy).1) (fun h₁ hns kp => ?_) S.co S.gen S.kind
  have I : L2.Inv (NdefX.ncx CX P w K mg base N (MF name qual params (superSt p0 p1 p2 p3 p4 e :: rest) scope cell cda) f A outer s H E) [] (NdefX.startF N vs [some (.ref C)]) H { s with heap := h₁, toks := s.toks + (ps.zip us).length } :=
    NdefX.inv_startN (F := MF name qual params (superSt p0 p1 p2 p3 p4 e :: rest) scope cell cda) S hr.hd e0 hl r CA hns kp
  have hσ : (NdefX.startF N vs [some (.ref C)])[0]? = some (some (.ref a)) := by
    unfold NdefX.startF
    cases vs with
    | nil => cases hv0
    | cons v vr =>
      cases hv0
      rfl
  have run := super_init (X := NdefX.ncx CX P w K mg base N (MF name qual params (superSt p0 p1 p2 p3 p4 e :: rest) scope cell cda) f A outer s H E) (body := superSt p0 p1 p2 p3 p4 e :: rest) (rest := rest) (p4 := p4) (pl := pl) F I T ha rfl rfl rfl hpa 0 hN hσ hks (S.frk _ (List.mem_singleton.mpr rfl)) hka hm he hr' hq hev (hint _) hsw hse rfl
  refine ks_wpAt_mono run (fun fl s' hs => ?_) fun e' s' hs => hs
  have fin : ∀ {σ' : L2.St} {H' : Hp} {v : V} {u : Value}, L2.Inv (NdefX.ncx CX P w K mg base N (MF name qual params (superSt p0 p1 p2 p3 p4 e :: rest) scope cell cda) f A outer s H E) [] σ' H' s' → L2.RelV v u → Q v H' → CE outer P w H s Q u s' :=
    fun {σ' H' v u} J rv q => ⟨v, H', J.os, J.bare, J.base, J.hok, rv, q⟩
  cases fl with
  | ret u =>
    obtain ⟨v, σ', H', J, rv, q⟩ := hs
    exact fin J rv q
  | next =>
    obtain ⟨σ', H', J, q⟩ := hs
    exact fin (v := V.non) (u := Value.none) J rfl q
  | brk =>
    obtain ⟨_, _, _, q⟩ := hs
    exact False.elim q
  | cont =>
    obtain ⟨_, _, _, q⟩ := hs
    exact False.elim q
/-- the same, of a body that is such a one -/
theorem init_fn2 {body : List Stmt} (hbd : body = superSt p0 p1 p2 p3 p4 e :: rest) (F : SupF P K C f cell cda params (PySem.W.fnX name qual params body scope [("__class__", cell)] dV kV doc pm an (.ref cda) ct)) (T : OexC K C) (hcd : PySem.W.codeIn K (.ref cda) qual = true) (S : NdefX.NScope N ps ["__class__"] scope)
    (hpa : (params.posonlyargs ++ params.args).head? = some ar) (hN : N[0]? = some ar.arg) (hks : scope.names.lookup ("super" : Str) = some .globalImplicit) (hka : scope.names.lookup ar.arg = some .local) (hm : mg "super" = none) (hint : ∀ L : Addr, interactive (NdefX.envF (MF name qual params body scope cell cda) f L) = false)
    (len : ∀ vs H Q E, sp vs H Q E → vs.length = ps.length)
    (hbody : ∀ (A : Around) (outer : List Env) (s : Shared) (H : Hp) (vs : List V) (Q : VK) (E : XK), sp vs H Q E → ∃ (te : TE) (tr : TS) (a : Addr) (pl : Sem Bool), vs[0]? = some (.ref a) ∧ H a = some (exo a C none) ∧
      PE (NdefX.ncx CX P w K mg base N (MF name qual params body scope cell cda) f A outer s H E) e te ∧ PSs (NdefX.ncx CX P w K mg base N (MF name qual params body scope cell cda) f A outer s H E) rest tr ∧
      eval (.Call (.Attribute (.Call (.Name "super" p0) [] [] p1) "__init__" p2) [e] [] p3) (NdefX.envF (MF name qual params body scope cell cda) f s.heap.objs.size) = (do
        let ov ← attributeBase (.Call (.Name "super" p0) [] [] p1) "__init__" (NdefX.envF (MF name qual params body scope cell cda) f s.heap.objs.size) (eval (.Call (.Name "super" p0) [] [] p1) (NdefX.envF (MF name qual params body scope cell cda) f s.heap.objs.size))
        standAt p2.atName
        let (f', first) ← holding [ov] (getMethod ov "__init__" pl)
        callWith p3 f' first (backTo p3 (starEach [e] (NdefX.envF (MF name qual params body scope cell cda) f s.heap.objs.size))) []) ∧
      swapsWith (.Call (.Attribute (.Call (.Name "super" p0) [] [] p1) "__init__" p2) [e] [] p3) none p4.line (NdefX.envF (MF name qual params body scope cell cda) f s.heap.objs.size) = pure false ∧
      starEach [e] (NdefX.envF (MF name qual params body scope cell cda) f s.heap.objs.size) = (false, eval e (NdefX.envF (MF name qual params body scope cell cda) f s.heap.objs.size)) :: starEach [] (NdefX.envF (MF name qual params body scope cell cda) f s.heap.objs.size) ∧
      te (NdefX.startF N vs [some (.ref C)]) H (fun x H1 => [x].length ≤ 1 ∧ H1 a = some (exo a C none) ∧ tr { nx := fun _ H2 => Q .non H2, rt := Q } (NdefX.startF N vs [some (.ref C)]) H1)) :
    FnOk P w K mg base CX (k + 1) f (PySem.W.fnX name qual params body scope [("__class__", cell)] dV kV doc pm an (.ref cda) ct) ps sp := by
  subst hbd
  exact init_fn F T hcd S hpa hN hks hka hm hint len hbody
end
end Bm
set_option maxHeartbeats 1000000
namespace Bm
open PySem PySem.Spec PyProof.Rows L2
/-! methods with cells, read off the written part -/
abbrev FnCl : Type := Option (Str × Str × Arguments × FuncBody × Scope × Addr × List Str × Addr)
def fnCl (K : PySem.W.Frag) (p : Str × Option Str) : FnCl := match K.lookup (He.fAd K p) with
  | some ⟨_, _, .func g, _⟩ => some (g.name, g.qualname, g.params, g.body, g.scope, g.globals, g.closure.map Prod.fst, g.builtins)
  | _ => none
/-- a class's __init__: class, qualified name, its def -/
structure DefI where
  cls : Str
  qual : Str
  st : Stmt
def DefI.val (d : DefI) : FnCl := some ("__init__", d.qual, defArgs d.st, .stmts (defBody d.st), defScope d.st, mainGlobals, ["__class__"], builtinsNs)
def DefI.at_ (d : DefI) : Str × Option Str := (d.cls, some "__init__")
def asC (g : Addr → Option Obj) (n : Nat) : List Addr := He.asD g n ++ [cStatics]
/-- all that is told of the head -/
structure SaysI (fa : List He.Fa) (fn : List He.DefD) (ts : List He.Tab) (tf : List He.Defn) (ci : List DefI) (ex : PySem.W.Frag → Bool) (w : World) (h : Heap) (K : PySem.W.Frag) : Prop where
  x : He.SaysX fa fn ts tf ex w h K
  cl : ci.map (fun d => fnCl K d.at_) = ci.map DefI.val
abbrev AlI : Type := He.AlX × List FnCl
def obsI (n : Nat) (fa : List He.Fa) (fn : List He.DefD) (ts : List He.Tab) (tf : List He.Defn) (ci : List DefI) (ex : PySem.W.Frag → Bool) (g : Addr → Option Obj) : AlI :=
  ((He.obsT fa fn ts (He.frT g (asC g n)), ex (He.frT g (asC g n)) && He.tabsB g tf (He.frT g (asC g n))), ci.map fun d => fnCl (He.frT g (asC g n)) d.at_)
def valI (fn : List He.DefD) (ts : List He.Tab) (ci : List DefI) (w : World) : AlI := (He.valX fn ts w, ci.map DefI.val)
theorem saysI_of {n : Nat} {fa : List He.Fa} {fn : List He.DefD} {ts : List He.Tab} {tf : List He.Defn} {ci : List DefI} {ex : PySem.W.Frag → Bool} {w : World} {h : Heap} (e : obsI n fa fn ts tf ci ex h.get? = valI fn ts ci w) : SaysI fa fn ts tf ci ex w h (He.frT h.get? (asC h.get? n)) := by
  have e0 := congrArg (fun z : AlI => z.1) e
  have e3 : ci.map (fun d => fnCl (He.frT h.get? (asC h.get? n)) d.at_) = ci.map DefI.val := congrArg (fun z : AlI => z.2) e
  generalize hK : He.frT h.get? (asC h.get? n) = K at *
  have e1 : He.obsT fa fn ts K = He.valT fn ts w := by
    rw [← hK]
    exact congrArg (fun z : He.AlX => z.1) e0
  have e2 : (ex K && He.tabsB h.get? tf K) = true := by
    rw [← hK]
    exact congrArg (fun z : He.AlX => z.2) e0
  obtain ⟨h1, h2⟩ := He.ba e2
  have all : ∀ p ∈ tf, PySem.W.codeHdIn K (He.cT K p).1 (He.cT K p).2 = true ∧ ∃ o, h.get? (He.cT K p).2 = some o ∧ He.emptyTab o = true := fun p hp => by
    obtain ⟨g1, g2⟩ := He.ba (List.all_eq_true.mp h2 p hp)
    refine ⟨g1, ?_⟩
    cases q : h.get? (He.cT K p).2 with
    | none => rw [q] at g2; cases g2
    | some o => rw [q] at g2; exact ⟨o, rfl, g2⟩
  refine ⟨⟨e1, h1, fun p hp => (all p hp).1, fun p hp => ?_, fun p hp => ?_⟩, e3⟩
  · obtain ⟨_, o, q, z⟩ := all p hp
    rw [← hK] at q ⊢
    exact He.frT_none q z
  · obtain ⟨_, o, q, z⟩ := all p hp
    rw [q, He.emptyTab_eq z]
def hookI (n : Nat) (fa : List He.Fa) (fn : List He.DefD) (ts : List He.Tab) (tf : List He.Defn) (ci : List DefI) (ex : PySem.W.Frag → Bool) : PySem.W.Hook where
  α := AlI
  obs := fun s => obsI n fa fn ts tf ci ex s.heap.get?
  val := fun w => valI fn ts ci w
  says := fun w h => ∃ K : PySem.W.Frag, K.In h ∧ SaysI fa fn ts tf ci ex w h K
  of := fun w s e => ⟨_, He.frT_in, saysI_of e⟩
  keeps := fun w h h2 ⟨K, hK, c⟩ k => ⟨K, PySem.W.Frag.In.keeps hK k, ⟨⟨c.x.t, c.x.more, c.x.hd, c.x.out, fun p hp => k _ _ (c.x.empty p hp)⟩, c.cl⟩⟩
theorem obsI_eq {n : Nat} {fa : List He.Fa} {fn : List He.DefD} {ts : List He.Tab} {tf : List He.Defn} {ci : List DefI} {ex : PySem.W.Frag → Bool} {g : Addr → Option Obj} {s : Shared} (h : ∀ a, g a = s.heap.get? a) : obsI n fa fn ts tf ci ex g = (hookI n fa fn ts tf ci ex).obs s := by
  obtain rfl : g = s.heap.get? := funext h
  rfl
/-! errors that bear something -/
def oexB (K : PySem.W.Frag) (C : Addr) : Bool := (match K.lookup C with
  | some ⟨.type t, _, .cls cd, sl⟩ => decide (t = "type") && (match cd.mro, sl.toList with
    | .ref C' :: bm, [_, _, _, _, some (.builtin n), _] => decide (C' = C) && (decide (n = "ValueError.__new__") && (!cd.hasDel && (cd.hasDict && PySem.HandSPX.refsVE bm)))
    | _, _ => false)
  | _ => false) && (He.eqO (PySem.W.findIn K (.ref C) "__setattr__") (some (some (.builtin "object.__setattr__"))) && (decide (PySem.W.subIn K (.ref C) (.type "BaseException") = some true) && (decide (PySem.W.typeIn K (.ref C) = some (.type "type")) && PySem.W.keepIn K (.ref C))))
theorem oexB_ok {K : PySem.W.Frag} {C : Addr} (h : oexB K C = true) : OexC K C := by
  obtain ⟨h1, h⟩ := He.ba h
  obtain ⟨h2, h⟩ := He.ba h
  obtain ⟨h3, h⟩ := He.ba h
  obtain ⟨h4, h5⟩ := He.ba h
  refine ⟨?_, He.eqO_ok h2, of_decide_eq_true h3, of_decide_eq_true h4, h5⟩
  clear h2 h3 h4 h5 h
  split at h1
  · rename_i t dd cd sl ho
    obtain ⟨g1, g2⟩ := He.ba h1
    have g1 := of_decide_eq_true g1
    subst g1
    split at g2
    · rename_i C' bm k0 k1 k2 k3 n k5 hm hs
      obtain ⟨z1, z⟩ := He.ba g2
      obtain ⟨z2, z⟩ := He.ba z
      obtain ⟨z3, z⟩ := He.ba z
      obtain ⟨z4, z5⟩ := He.ba z
      have z1 := of_decide_eq_true z1
      have z2 := of_decide_eq_true z2
      subst z1 z2
      obtain ⟨nm, bs, mro, ns, qn, hd, sn, sub, ab, col, dl⟩ := cd
      dsimp only at hm z3 z4
      have z3 : dl = false := by simpa using z3
      subst hm z3 z4
      have hsl : sl = #[k0, k1, k2, k3, some (.builtin "ValueError.__new__"), k5] := by
        obtain ⟨l⟩ := sl
        simp only at hs
        rw [hs]
      subst hsl
      exact ⟨nm, qn, ns, bs, bm, sn, sub, ab, col, dd, k0, k1, k2, k3, k5, ho, z5⟩
    · cases g2
  · cases h1
/-- the written part of such a class's __init__ (file: the program's own name) -/
def supB (K : PySem.W.Frag) (file : Str) (x qual : Str) : Bool :=
  (match K.lookup (He.fAd K (x, some "__init__")) with
  | some ⟨_, _, .func g, _⟩ => (match g.code, g.closure with
    | .ref cda, [(_, cell)] => decide (g.defaults = .none) && (PySem.W.codeIn K (.ref cda) qual && ((match K.lookup cda with
      | some ⟨_, _, .fields vs, _⟩ => (match (vs[2]? : Option Value) with
        | some (.str fl _) => file == fl
        | _ => false)
      | _ => false) && (match K.lookup cell with
      | some ⟨_, _, .cell (some (.ref D)), _⟩ => decide (D = He.ga K x)
      | _ => false)))
    | _, _ => false)
  | _ => false) && ((PySem.W.clsIn K (He.ga K x)).isSome && (decide (PySem.W.mroIn K (He.ga K x) (.ref (He.ga K x)) = some true) && (He.eqO (PySem.W.ks_superIn K (He.ga K x) (He.ga K x) "__init__") (some (some (.builtin "ValueError.__init__"))) &&
    (decide (PySem.W.subIn K (.ref (He.ga K x)) (.type "ValueError") = some true) && (He.eqO (PySem.W.nsIn K cStatics "thirdparty.any") (some none) && (oexB K (He.ga K x) &&
    (He.eqO (PySem.W.findIn K (.ref (He.ga K x)) "__init__") (some (some (.ref (He.fAd K (x, some "__init__"))))) && decide (PySem.W.typeIn K (.ref (He.fAd K (x, some "__init__"))) = some (.type "function")))))))))
structure SupI (P : Program) (K : PySem.W.Frag) (x qual : Str) (st : Stmt) : Prop where
  f : ∃ (cell cda : Addr) (kV doc pm ct : Value) (an : Option Addr), SupF P K (He.ga K x) (He.fAd K (x, some "__init__")) cell cda (defArgs st) (PySem.W.fnX "__init__" qual (defArgs st) (defBody st) (defScope st) [("__class__", cell)] .none kV doc pm an (.ref cda) ct) ∧ PySem.W.codeIn K (.ref cda) qual = true
  o : OexC K (He.ga K x)
  i : PySem.W.findIn K (.ref (He.ga K x)) "__init__" = some (some (.ref (He.fAd K (x, some "__init__"))))
  t : PySem.W.typeIn K (.ref (He.fAd K (x, some "__init__"))) = some (.type "function")
theorem supI_of {P : Program} {K : PySem.W.Frag} {x qual : Str} {st : Stmt} (h : supB K P.main.file x qual = true) (e : fnCl K (x, some "__init__") = (DefI.mk x qual st).val) (top : (P.main.scope.names.lookup ("super" : Str)).isSome = false) : SupI P K x qual st := by
  obtain ⟨h1, h⟩ := He.ba h
  obtain ⟨h2, h⟩ := He.ba h
  obtain ⟨h3, h⟩ := He.ba h
  obtain ⟨h4, h⟩ := He.ba h
  obtain ⟨h5, h⟩ := He.ba h
  obtain ⟨h6, h⟩ := He.ba h
  obtain ⟨h7, h⟩ := He.ba h
  obtain ⟨h8, h9⟩ := He.ba h
  refine ⟨?_, oexB_ok h7, He.eqO_ok h8, of_decide_eq_true h9⟩
  unfold fnCl at e
  split at h1
  · rename_i oc od g osl ho
    rw [ho] at e
    obtain ⟨n1, n2, n3, n4, n5, n6, n7, n8, n9, n10, n11, n12, n13, n14, n15⟩ := g
    have e2 : (some (n1, n2, n3, n4, n5, n6, n7.map Prod.fst, n15) : FnCl) = some (("__init__" : Str), qual, defArgs st, FuncBody.stmts (defBody st), defScope st, mainGlobals, [("__class__" : Str)], builtinsNs) := e
    simp only [Option.some.injEq, Prod.mk.injEq] at e2
    obtain ⟨q1, q2, q3, q4, q5, q6, q7, q8⟩ := e2
    subst q1 q2 q3 q4 q5 q6 q8
    dsimp only at h1
    split at h1
    · rename_i _ _ cda y cell
      have hy : y = "__class__" := by
        simp only [List.map_cons, List.map_nil, List.cons.injEq, and_true] at q7
        exact q7
      subst hy
      obtain ⟨g0, g4⟩ := He.ba h1
      have g0 : n8 = .none := of_decide_eq_true g0
      subst g0
      obtain ⟨g1, g5⟩ := He.ba g4
      obtain ⟨g2, g3⟩ := He.ba g5
      refine ⟨cell, cda, n9, n10, n11, n14, n12, ⟨⟨_, _, _, ho⟩, rfl, ?_, ?_, h2, of_decide_eq_true h3, He.eqO_ok h4, of_decide_eq_true h5, He.eqO_ok h6, top⟩, g1⟩
      · split at g2
        · rename_i oc2 od2 vs sl2 hl
          split at g2
          · rename_i fl tf hv
            exact ⟨_, _, _, _, _, _, hl, hv, g2⟩
          · cases g2
        · cases g2
      · split at g3
        · rename_i oc2 od2 D sl2 hl
          have g3 := of_decide_eq_true g3
          subst g3
          exact ⟨_, _, _, hl⟩
        · cases g3
    · cases h1
  · cases h1
end Bm
set_option maxHeartbeats 0
namespace Bm
open PySem PySem.Spec PyProof.Rows L2
def top (i : Nat) : Stmt := PySem.Challenge.pw_bitmill_k16_images_shown.main.body.getD i (.Pass ⟨0, 0, 0, 0⟩)
abbrev s_is_number : Stmt := top 6
abbrev s_is_word : Stmt := top 7
abbrev s_first_wrong : Stmt := top 8
abbrev s_checked_image : Stmt := top 9
abbrev s_is_part : Stmt := top 16
abbrev s_is_deed : Stmt := top 17
abbrev s_words_of : Stmt := top 18
abbrev s_going_words : Stmt := top 19
abbrev s_is_reached : Stmt := top 20
abbrev s_only_word : Stmt := top 21
abbrev s_fields : Stmt := top 22
abbrev s_deed_at : Stmt := top 23
abbrev s_deeds_met : Stmt := top 24
abbrev s_goal_of : Stmt := top 25
abbrev s_guessed : Stmt := top 26
abbrev s_guessed_going : Stmt := top 27
abbrev s_signed : Stmt := top 28
abbrev s_shown : Stmt := top 30
abbrev s_told_deeds : Stmt := top 31
abbrev s_word_row : Stmt := top 32
abbrev s_deed_row : Stmt := top 33
abbrev s_reach_word : Stmt := top 34
abbrev s__law_start : Stmt := top 36
abbrev s__law_drawn : Stmt := top 37
abbrev s__law_same : Stmt := top 38
abbrev s__law_plain : Stmt := top 39
abbrev s__law_pairs : Stmt := top 40
abbrev s__law_times : Stmt := top 41
abbrev s__law_number : Stmt := top 42
abbrev s__law_deed : Stmt := top 43
abbrev s__law_words : Stmt := top 44
abbrev s__law_deed_at : Stmt := top 45
abbrev s__law_image : Stmt := top 46
abbrev s__law_row_of : Stmt := top 47
abbrev s__law_swept : Stmt := top 48
abbrev s__law_hex : Stmt := top 49
abbrev s__law_shown : Stmt := top 50
abbrev s_law : Stmt := top 51
def d_is_number : He.DefD := ⟨("is_number", none), "is_number", "is_number", defArgs s_is_number, defBody s_is_number, defScope s_is_number, [], []⟩
def d_is_word : He.DefD := ⟨("is_word", none), "is_word", "is_word", defArgs s_is_word, defBody s_is_word, defScope s_is_word, [], []⟩
def d_first_wrong : He.DefD := ⟨("first_wrong", none), "first_wrong", "first_wrong", defArgs s_first_wrong, defBody s_first_wrong, defScope s_first_wrong, [], []⟩
def d_checked_image : He.DefD := ⟨("checked_image", none), "checked_image", "checked_image", defArgs s_checked_image, defBody s_checked_image, defScope s_checked_image, [], []⟩
def d_is_part : He.DefD := ⟨("is_part", none), "is_part", "is_part", defArgs s_is_part, defBody s_is_part, defScope s_is_part, [], []⟩
def d_is_deed : He.DefD := ⟨("is_deed", none), "is_deed", "is_deed", defArgs s_is_deed, defBody s_is_deed, defScope s_is_deed, [], []⟩
def d_words_of : He.DefD := ⟨("words_of", none), "words_of", "words_of", defArgs s_words_of, defBody s_words_of, defScope s_words_of, [], []⟩
def d_going_words : He.DefD := ⟨("going_words", none), "going_words", "going_words", defArgs s_going_words, defBody s_going_words, defScope s_going_words, [], []⟩
def d_is_reached : He.DefD := ⟨("is_reached", none), "is_reached", "is_reached", defArgs s_is_reached, defBody s_is_reached, defScope s_is_reached, [], []⟩
def d_only_word : He.DefD := ⟨("only_word", none), "only_word", "only_word", defArgs s_only_word, defBody s_only_word, defScope s_only_word, [], []⟩
def d_fields : He.DefD := ⟨("fields", none), "fields", "fields", defArgs s_fields, defBody s_fields, defScope s_fields, [.int 0], []⟩
def d_deed_at : He.DefD := ⟨("deed_at", none), "deed_at", "deed_at", defArgs s_deed_at, defBody s_deed_at, defScope s_deed_at, [], []⟩
def d_deeds_met : He.DefD := ⟨("deeds_met", none), "deeds_met", "deeds_met", defArgs s_deeds_met, defBody s_deeds_met, defScope s_deeds_met, [], []⟩
def d_goal_of : He.DefD := ⟨("goal_of", none), "goal_of", "goal_of", defArgs s_goal_of, defBody s_goal_of, defScope s_goal_of, [], []⟩
def d_guessed : He.DefD := ⟨("guessed", none), "guessed", "guessed", defArgs s_guessed, defBody s_guessed, defScope s_guessed, [], []⟩
def d_guessed_going : He.DefD := ⟨("guessed_going", none), "guessed_going", "guessed_going", defArgs s_guessed_going, defBody s_guessed_going, defScope s_guessed_going, [], []⟩
def d_signed : He.DefD := ⟨("signed", none), "signed", "signed", defArgs s_signed, defBody s_signed, defScope s_signed, [], []⟩
def d_shown : He.DefD := ⟨("shown", none), "shown", "shown", defArgs s_shown, defBody s_shown, defScope s_shown, [], []⟩
def d_told_deeds : He.DefD := ⟨("told_deeds", none), "told_deeds", "told_deeds", defArgs s_told_deeds, defBody s_told_deeds, defScope s_told_deeds, [], []⟩
def d_word_row : He.DefD := ⟨("word_row", none), "word_row", "word_row", defArgs s_word_row, defBody s_word_row, defScope s_word_row, [], []⟩
def d_deed_row : He.DefD := ⟨("deed_row", none), "deed_row", "deed_row", defArgs s_deed_row, defBody s_deed_row, defScope s_deed_row, [], []⟩
def d_reach_word : He.DefD := ⟨("reach_word", none), "reach_word", "reach_word", defArgs s_reach_word, defBody s_reach_word, defScope s_reach_word, [], []⟩
def d__law_start : He.DefD := ⟨("_law_start", none), "_law_start", "_law_start", defArgs s__law_start, defBody s__law_start, defScope s__law_start, [], []⟩
def d__law_drawn : He.DefD := ⟨("_law_drawn", none), "_law_drawn", "_law_drawn", defArgs s__law_drawn, defBody s__law_drawn, defScope s__law_drawn, [], []⟩
def d__law_same : He.DefD := ⟨("_law_same", none), "_law_same", "_law_same", defArgs s__law_same, defBody s__law_same, defScope s__law_same, [], []⟩
def d__law_plain : He.DefD := ⟨("_law_plain", none), "_law_plain", "_law_plain", defArgs s__law_plain, defBody s__law_plain, defScope s__law_plain, [], []⟩
def d__law_pairs : He.DefD := ⟨("_law_pairs", none), "_law_pairs", "_law_pairs", defArgs s__law_pairs, defBody s__law_pairs, defScope s__law_pairs, [], []⟩
def d__law_times : He.DefD := ⟨("_law_times", none), "_law_times", "_law_times", defArgs s__law_times, defBody s__law_times, defScope s__law_times, [], []⟩
def d__law_number : He.DefD := ⟨("_law_number", none), "_law_number", "_law_number", defArgs s__law_number, defBody s__law_number, defScope s__law_number, [], []⟩
def d__law_deed : He.DefD := ⟨("_law_deed", none), "_law_deed", "_law_deed", defArgs s__law_deed, defBody s__law_deed, defScope s__law_deed, [], []⟩
def d__law_words : He.DefD := ⟨("_law_words", none), "_law_words", "_law_words", defArgs s__law_words, defBody s__law_words, defScope s__law_words, [], []⟩
def d__law_deed_at : He.DefD := ⟨("_law_deed_at", none), "_law_deed_at", "_law_deed_at", defArgs s__law_deed_at, defBody s__law_deed_at, defScope s__law_deed_at, [], []⟩
def d__law_image : He.DefD := ⟨("_law_image", none), "_law_image", "_law_image", defArgs s__law_image, defBody s__law_image, defScope s__law_image, [], []⟩
def d__law_row_of : He.DefD := ⟨("_law_row_of", none), "_law_row_of", "_law_row_of", defArgs s__law_row_of, defBody s__law_row_of, defScope s__law_row_of, [], []⟩
def d__law_swept : He.DefD := ⟨("_law_swept", none), "_law_swept", "_law_swept", defArgs s__law_swept, defBody s__law_swept, defScope s__law_swept, [], []⟩
def d__law_hex : He.DefD := ⟨("_law_hex", none), "_law_hex", "_law_hex", defArgs s__law_hex, defBody s__law_hex, defScope s__law_hex, [], []⟩
def d__law_shown : He.DefD := ⟨("_law_shown", none), "_law_shown", "_law_shown", defArgs s__law_shown, defBody s__law_shown, defScope s__law_shown, [], []⟩
def d_law : He.DefD := ⟨("law", none), "law", "law", defArgs s_law, defBody s_law, defScope s_law, [], []⟩
def clsFn (st : Stmt) : Stmt := match st with
  | .ClassDef _ _ _ body _ _ _ _ _ _ _ => body.getD 0 (.Pass ⟨0, 0, 0, 0⟩)
  | _ => .Pass ⟨0, 0, 0, 0⟩
abbrev s_init_BadImage : Stmt := clsFn (top 2)
def fnL : List He.DefD := [d_is_number, d_is_word, d_first_wrong, d_checked_image, d_is_part, d_is_deed, d_words_of, d_going_words, d_is_reached, d_only_word, d_fields, d_deed_at, d_deeds_met, d_goal_of, d_guessed, d_guessed_going, d_signed, d_shown, d_told_deeds, d_word_row, d_deed_row, d_reach_word, d__law_start, d__law_drawn, d__law_same, d__law_plain, d__law_pairs, d__law_times, d__law_number, d__law_deed, d__law_words, d__law_deed_at, d__law_image, d__law_row_of, d__law_swept, d__law_hex, d__law_shown, d_law]
def faL : List He.Fa := [.glo "MillError", .glo "BadImage", .glo "is_number", .glo "is_word", .glo "first_wrong", .glo "checked_image", .glo "SINGLES", .glo "SUMS", .glo "TIMES", .glo "PARTS", .glo "SPANS", .glo "is_part", .glo "is_deed", .glo "words_of", .glo "going_words", .glo "is_reached", .glo "only_word", .glo "fields", .glo "deed_at", .glo "deeds_met", .glo "goal_of", .glo "guessed", .glo "guessed_going", .glo "signed", .glo "shown", .glo "told_deeds", .glo "word_row", .glo "deed_row", .glo "reach_word", .glo "_law_start", .glo "_law_drawn", .glo "_law_same", .glo "_law_plain", .glo "_law_pairs", .glo "_law_times", .glo "_law_number", .glo "_law_deed", .glo "_law_words", .glo "_law_deed_at", .glo "_law_image", .glo "_law_row_of", .glo "_law_swept", .glo "_law_hex", .glo "_law_shown", .glo "law", .int "WORD_MOST" 65535, .int "IMAGE_MOST" 200, .free "all", .free "bool", .free "divmod", .free "enumerate", .free "int", .free "isinstance", .free "len", .free "list", .free "max", .free "min", .free "range", .free "str", .free "sum", .free "super", .free "tuple", .free "zip", .noat "BadImage" "number"]
def tsL : List He.Tab := [(fun K => He.ga K "PARTS", ["halt", "rest", "back", "say", "ask", "push", "pop", "add", "less", "and", "or", "xor", "left", "right", "turn", "plus", "set", "high", "load", "store", "jump", "call"]), (fun K => He.ga K "SPANS", ["reg", "signed six", "six", "seven", "nine", "goal"])]
abbrev R : PySem.W.OpenRow := PySem.W.OpenLaw.row PySem.Challenge.rw_bitmill_k16_images_shown
def loose0 : List PySem.Str := ["MillError", "BadImage", "WORD_MOST", "IMAGE_MOST", "is_number", "is_word", "first_wrong", "checked_image", "SINGLES", "SUMS", "TIMES", "PARTS", "SPANS", "is_part", "is_deed", "words_of", "going_words", "is_reached", "only_word", "fields", "deed_at", "deeds_met", "goal_of", "guessed", "guessed_going", "signed", "shown", "told_deeds", "word_row", "deed_row"]
def loose1 : List PySem.Str := ["reach_word", "_law_start", "_law_drawn", "_law_same", "_law_plain", "_law_pairs", "_law_times", "_law_number", "_law_deed", "_law_words", "_law_deed_at", "_law_image", "_law_row_of", "_law_swept", "_law_hex", "_law_shown"]
def looseL : List PySem.Str := loose0 ++ loose1
def ciL : List DefI := [⟨"BadImage", "BadImage.__init__", s_init_BadImage⟩]
def LAWI : Nat := 51
end Bm
set_option maxHeartbeats 400000
namespace Bm
open PySem L2
/-! the deeds -/
def SG : List Str := ["halt", "rest", "back", "say", "ask", "push", "pop"]
def SM : List Str := ["add", "less", "and", "or", "xor", "left", "right", "turn"]
def TM : List Str := ["always", "zero", "some", "carry", "clear", "minus", "over"]
abbrev nm (l : List Str) (k : Nat) : Str := l.getD k ""
inductive De where
  | sgl (k : Nat) | reg (k : Nat) (a : Int) | sum (k : Nat) (d a b : Int) | plus (d a n : Int) | set (d n : Int) | high (d n : Int) | load (d a n : Int) | store (d a n : Int)
  | jump (k : Nat) (g : Int) (far : Bool) | call (g : Int) (far : Bool)
def r3 (a : Int) : Prop := 0 ≤ a ∧ a ≤ 7
def De.ok : De → Prop
  | .sgl k => k < 3
  | .reg k a => 3 ≤ k ∧ k < 7 ∧ r3 a
  | .sum k d a b => k < 8 ∧ r3 d ∧ r3 a ∧ r3 b
  | .plus d a n => r3 d ∧ r3 a ∧ -32 ≤ n ∧ n ≤ 31
  | .set d n => r3 d ∧ 0 ≤ n ∧ n ≤ 511
  | .high d n => r3 d ∧ 0 ≤ n ∧ n ≤ 127
  | .load d a n => r3 d ∧ r3 a ∧ 0 ≤ n ∧ n ≤ 63
  | .store d a n => r3 d ∧ r3 a ∧ 0 ≤ n ∧ n ≤ 63
  | .jump k g _ => k < 7 ∧ 0 ≤ g ∧ g ≤ 65535
  | .call g _ => 0 ≤ g ∧ g ≤ 65535
def De.vals : De → List V
  | .sgl k => [.str (nm SG k)]
  | .reg k a => [.str (nm SG k), .int a]
  | .sum k d a b => [.str (nm SM k), .int d, .int a, .int b]
  | .plus d a n => [.str "plus", .int d, .int a, .int n]
  | .set d n => [.str "set", .int d, .int n]
  | .high d n => [.str "high", .int d, .int n]
  | .load d a n => [.str "load", .int d, .int a, .int n]
  | .store d a n => [.str "store", .int d, .int a, .int n]
  | .jump k g f => [.str "jump", .str (nm TM k), .int g, .bl f]
  | .call g f => [.str "call", .int g, .bl f]
/-- the word of a deed that goes nowhere -/
def De.word : De → Int
  | .sgl k => k * 512
  | .reg k a => k * 512 + a * 64
  | .sum k d a b => 4096 + d * 512 + a * 64 + b * 8 + k
  | .plus d a n => 8192 + d * 512 + a * 64 + n % 64
  | .set d n => 12288 + d * 512 + n
  | .high d n => 16384 + d * 512 + n
  | .load d a n => 20480 + d * 512 + a * 64 + n
  | .store d a n => 24576 + d * 512 + a * 64 + n
  | _ => 0
def De.goes : De → Bool
  | .jump _ _ _ => true
  | .call _ _ => true
  | _ => false
def near (g p : Int) : Prop := -16 ≤ g - p - 1 ∧ g - p - 1 ≤ 15
instance (g p : Int) : Decidable (near g p) := inferInstanceAs (Decidable (_ ∧ _))
def De.reached (p : Int) : De → Prop
  | .jump _ g false => near g p
  | .call g false => near g p
  | _ => True
def De.words (p : Int) : De → List Int
  | .jump k g true => [32768 + k * 512, g]
  | .jump k g false => [28672 + k * 512 + (g - p - 1) % 32]
  | .call g true => [40960, g]
  | .call g false => [36864 + (g - p - 1) % 32]
  | d => [d.word]
theorem words_word {d : De} (h : d.goes = false) (p : Int) : d.words p = [d.word] := by
  cases d <;> first | rfl | cases h
/-! bits side by side -/
theorem or_side {x y : Int} (k : Nat) (hx : 0 ≤ x) (h0 : 0 ≤ y) (h1 : y < 2 ^ k) : Builtin.bitOr (x * 2 ^ k) y = x * 2 ^ k + y := by
  rw [Bits.bitOr_join' h0 h1 hx, Int.add_comm]
theorem or6 {x y : Int} (hx : 0 ≤ x) (h0 : 0 ≤ y) (h1 : y < 64) : Builtin.bitOr (x * 64) y = x * 64 + y := or_side 6 hx h0 h1
theorem or9 {x y : Int} (hx : 0 ≤ x) (h0 : 0 ≤ y) (h1 : y < 512) : Builtin.bitOr (x * 512) y = x * 512 + y := or_side 9 hx h0 h1
theorem or3' {x y : Int} (hx : 0 ≤ x) (h0 : 0 ≤ y) (h1 : y < 8) : Builtin.bitOr (x * 8) y = x * 8 + y := or_side 3 hx h0 h1
/-! the names -/
theorem sg_ne : ∀ k, k < 7 → nm SG k ≠ "set" ∧ nm SG k ≠ "high" ∧ nm SG k ≠ "jump" ∧ nm SG k ≠ "call" := by decide +kernel
theorem sm_ne : ∀ k, k < 8 → nm SM k ≠ "plus" ∧ nm SM k ≠ "load" ∧ nm SM k ≠ "store" ∧ nm SM k ≠ "jump" ∧ nm SM k ≠ "call" := by decide +kernel
theorem sg_at : ∀ k, k < 7 → SG[k]? = some (nm SG k) ∧ ∀ m, m < k → SG[m]? ≠ some (nm SG k) := by decide +kernel
theorem sm_at : ∀ k, k < 8 → SM[k]? = some (nm SM k) ∧ ∀ m, m < k → SM[m]? ≠ some (nm SM k) := by decide +kernel
theorem tm_at : ∀ k, k < 7 → TM[k]? = some (nm TM k) ∧ ∀ m, m < k → TM[m]? ≠ some (nm TM k) := by decide +kernel
end Bm
set_option maxHeartbeats 400000
namespace Bm
open PySem PySem.Spec PyProof.Rows L2
/-! a tuple that the top has written, at an address -/
def tupAt (K : PySem.W.Frag) (a : Addr) (vs : List He.Dv) : Bool := match K.lookup a with
  | some ⟨.type c, none, .seq its _, _⟩ => decide (c = "tuple") && (decide (its.size ≤ sizeLine) && He.relAll (vs.map (He.Dv.v K)) its.toList)
  | _ => false
theorem tupAt_ok {K : PySem.W.Frag} {a : Addr} {vs : List He.Dv} (h : tupAt K a vs = true) (H : Hp) : SqT K H a (vs.map (He.Dv.v K)) ∧ tyV K "tuple" (.ref a) H := by
  unfold tupAt at h
  cases q : K.lookup a with
  | none => rw [q] at h; cases h
  | some o =>
    obtain ⟨oc, od, dt, osl⟩ := o
    rw [q] at h
    cases oc with
    | type c =>
      cases od with
      | some z => cases dt <;> cases h
      | none =>
        cases dt with
        | seq its n =>
          obtain ⟨h1, h2⟩ := He.ba (show (decide (c = "tuple") && (decide (its.size ≤ sizeLine) && He.relAll (vs.map (He.Dv.v K)) its.toList)) = true from h)
          obtain ⟨h3, h4⟩ := He.ba h2
          exact ⟨.inr ⟨_, its, n, q, congrArg Value.type (of_decide_eq_true h1), rfl, of_decide_eq_true h3, He.relAll_ok h4⟩, .inr (.inl ⟨rfl, _, q, congrArg Value.type (of_decide_eq_true h1), rfl⟩)⟩
        | _ => cases h
    | _ => cases od <;> cases dt <;> cases h
/-! a table of the top from texts to tuples -/
def rowB (K : PySem.W.Frag) (d : Addr) (r : Str × List He.Dv) : Bool := match PySem.W.nsIn K d r.1 with
  | some (some (.ref t)) => tupAt K t r.2
  | _ => false
theorem rowB_ok {K : PySem.W.Frag} {d : Addr} {r : Str × List He.Dv} (h : rowB K d r = true) : ∃ t, PySem.W.nsIn K d r.1 = some (some (.ref t)) ∧ ∀ H, SqT K H t (r.2.map (He.Dv.v K)) := by
  unfold rowB at h
  cases q : PySem.W.nsIn K d r.1 with
  | none => rw [q] at h; cases h
  | some o =>
    rw [q] at h
    cases o with
    | none => cases h
    | some v =>
      cases v with
      | ref t => exact ⟨t, rfl, fun H => (tupAt_ok h H).1⟩
      | _ => cases h
def noB (K : PySem.W.Frag) (d : Addr) (x : Str) : Bool := He.eqO (PySem.W.nsIn K d x) (some none)
def dStr (l : List Str) : List He.Dv := l.map He.Dv.str
theorem dStr_v {K : PySem.W.Frag} (l : List Str) : (dStr l).map (He.Dv.v K) = l.map V.str := by
  unfold dStr
  rw [List.map_map]
  rfl
def PT : List (Str × List Str) := [("halt", []), ("rest", []), ("back", []), ("say", ["reg"]), ("ask", ["reg"]), ("push", ["reg"]), ("pop", ["reg"]),
  ("add", ["reg", "reg", "reg"]), ("less", ["reg", "reg", "reg"]), ("and", ["reg", "reg", "reg"]), ("or", ["reg", "reg", "reg"]), ("xor", ["reg", "reg", "reg"]), ("left", ["reg", "reg", "reg"]), ("right", ["reg", "reg", "reg"]), ("turn", ["reg", "reg", "reg"]),
  ("plus", ["reg", "reg", "signed six"]), ("set", ["reg", "nine"]), ("high", ["reg", "seven"]), ("load", ["reg", "reg", "six"]), ("store", ["reg", "reg", "six"]), ("jump", ["when", "goal", "far"]), ("call", ["goal", "far"])]
def ST : List (Str × Int × Int) := [("reg", 0, 7), ("signed six", -32, 31), ("six", 0, 63), ("seven", 0, 127), ("nine", 0, 511), ("goal", 0, 65535)]
/-- what the deeds' module has written -/
def conB (odd : List Str) (K : PySem.W.Frag) : Bool :=
  tupAt K (He.ga K "SINGLES") (dStr SG) && (tupAt K (He.ga K "SUMS") (dStr SM) && (tupAt K (He.ga K "TIMES") (dStr TM) &&
    ((PT.all fun r => rowB K (He.ga K "PARTS") (r.1, dStr r.2)) && ((ST.all fun r => rowB K (He.ga K "SPANS") (r.1, [.int r.2.1, .int r.2.2])) && odd.all fun x => noB K (He.ga K "PARTS") x))))
structure Con (w : World) (K : PySem.W.Frag) (mg : Str → Option Value) (odd : List Str) : Prop where
  g_SINGLES : mg "SINGLES" = some (.ref (He.ga K "SINGLES"))
  g_SUMS : mg "SUMS" = some (.ref (He.ga K "SUMS"))
  g_TIMES : mg "TIMES" = some (.ref (He.ga K "TIMES"))
  g_PARTS : mg "PARTS" = some (.ref (He.ga K "PARTS"))
  g_SPANS : mg "SPANS" = some (.ref (He.ga K "SPANS"))
  sg : ∀ H, SqT K H (He.ga K "SINGLES") (SG.map V.str) ∧ tyV K "tuple" (.ref (He.ga K "SINGLES")) H
  sm : ∀ H, SqT K H (He.ga K "SUMS") (SM.map V.str) ∧ tyV K "tuple" (.ref (He.ga K "SUMS")) H
  tm : ∀ H, SqT K H (He.ga K "TIMES") (TM.map V.str) ∧ tyV K "tuple" (.ref (He.ga K "TIMES")) H
  parts : ∃ es n, KDict K w (He.ga K "PARTS") es n
  spans : ∃ es n, KDict K w (He.ga K "SPANS") es n
  part : ∀ r ∈ PT, ∃ t, PySem.W.nsIn K (He.ga K "PARTS") r.1 = some (some (.ref t)) ∧ ∀ H, SqT K H t (r.2.map V.str)
  span : ∀ r ∈ ST, ∃ t, PySem.W.nsIn K (He.ga K "SPANS") r.1 = some (some (.ref t)) ∧ ∀ H, SqT K H t [.int r.2.1, .int r.2.2]
  odd : ∀ x ∈ odd, PySem.W.nsIn K (He.ga K "PARTS") x = some none
theorem con_of {w : World} {K : PySem.W.Frag} {mg : Str → Option Value} {odd : List Str} (h : conB odd K = true) (g1 : mg "SINGLES" = some (.ref (He.ga K "SINGLES"))) (g2 : mg "SUMS" = some (.ref (He.ga K "SUMS"))) (g3 : mg "TIMES" = some (.ref (He.ga K "TIMES")))
    (g4 : mg "PARTS" = some (.ref (He.ga K "PARTS"))) (g5 : mg "SPANS" = some (.ref (He.ga K "SPANS"))) (p : ∃ es n, KDict K w (He.ga K "PARTS") es n) (s : ∃ es n, KDict K w (He.ga K "SPANS") es n) : Con w K mg odd := by
  obtain ⟨h1, h⟩ := He.ba h
  obtain ⟨h2, h⟩ := He.ba h
  obtain ⟨h3, h⟩ := He.ba h
  obtain ⟨h4, h⟩ := He.ba h
  obtain ⟨h5, h6⟩ := He.ba h
  refine ⟨g1, g2, g3, g4, g5, fun H => ?_, fun H => ?_, fun H => ?_, p, s, fun r hr => ?_, fun r hr => ?_, fun x hx => ?_⟩
  · rw [← dStr_v (K := K)]
    exact tupAt_ok h1 H
  · rw [← dStr_v (K := K)]
    exact tupAt_ok h2 H
  · rw [← dStr_v (K := K)]
    exact tupAt_ok h3 H
  · obtain ⟨t, e, q⟩ := rowB_ok (List.all_eq_true.mp h4 r hr)
    refine ⟨t, e, fun H => ?_⟩
    rw [← dStr_v (K := K)]
    exact q H
  · obtain ⟨t, e, q⟩ := rowB_ok (List.all_eq_true.mp h5 r hr)
    exact ⟨t, e, fun H => q H⟩
  · exact He.eqO_ok (List.all_eq_true.mp h6 x hx)
end Bm
set_option maxHeartbeats 0
namespace Bm
open PySem PySem.Spec PyProof.Rows L2
def tfL : List He.Defn := []
def exB (K : PySem.W.Frag) : Bool := conB [] K
def LIM : Nat := 6
abbrev hk : PySem.W.Hook := He.hookX LIM faL fnL tsL tfL exB
def ob (s : PySem.W.SharedT) : He.AlX := He.obsX LIM faL fnL tsL tfL exB (HandSHeadRun.getT s)
theorem ob_eq (s : PySem.W.SharedT) : ob s = hk.obs s.abs := He.obsX_eq (HandSHeadRun.getT_eq s)
theorem run_f (w : World) : HandSHeadRun.RunEq R (PySem.W.view R.prog [LAWI]) hk ob 6000 looseL (w.withFollow "special-get-raises" false) := by
  intro os
  kernel_rfl
theorem run_t (w : World) : HandSHeadRun.RunEq R (PySem.W.view R.prog [LAWI]) hk ob 6000 looseL (w.withFollow "special-get-raises" true) := by
  intro os
  kernel_rfl
theorem run (w : World) : HandSHeadRun.RunEq R (PySem.W.view R.prog [LAWI]) hk ob 6000 looseL w :=
  PySem.W.byRow2 "special-get-raises" (P := fun w => HandSHeadRun.RunEq R (PySem.W.view R.prog [LAWI]) hk ob 6000 looseL w) run_f run_t w
end Bm
set_option maxHeartbeats 2000000
namespace Bm
open PySem PySem.Spec PyProof.Rows Builtin Builtin.Int Builtin.Float
/-- the figures of a number, filled up with 0 to a width -/
def figT (base w : Nat) (n : Nat) : Str := ⟨(List.replicate (w - (Nat.toDigits base n).length) 48 ++ (Nat.toDigits base n).map Char.toNat).toArray⟩
def f04x : FormatSpec := { fill := 48, align := 61, width := some 4, type := some 120 }
def f016b : FormatSpec := { fill := 48, align := 61, width := some 16, type := some 98 }
theorem p04x (name : String) : parseFormatSpec ("04x" : Str).cps.toList name 62 = .ok f04x := by kernel_rfl
theorem p016b (name : String) : parseFormatSpec ("016b" : Str).cps.toList name 62 = .ok f016b := by kernel_rfl
theorem gives_cut {v : Value} {T : String} {n : Nat} {k : String → Sem Fin} {m : Made} (hc : ∀ (prog : Program) (w : World) (A : Around) (s : Shared) (Q : String → Shared → Prop) (E : Value → Shared → Prop), Q T s → wpAny (model prog w) A (typeNameOfCut n v) Q E s) (g : Gives (k T) m) : Gives (do let x ← typeNameOfCut n v; k x) m :=
  fun prog w A R s hq => wpAny_bind (hc _ _ _ _ _ _ (g prog w A R s hq))
theorem gives_as {a b : Sem Fin} {m : Made} (e : b = a) (h : Gives a m) : Gives b m := by
  rw [e]
  exact h
theorem figs_eq {f : FormatSpec} {b k t n g : Nat} (ht : (t == 88) = false) (h1 : f.grouping = none) (h2 : f.sign = none) (h3 : f.fill = 48) (h4 : f.align = 61) (h5 : f.width = some k) : intField' f false [] ((Nat.toDigits b n).map fun c => (if (t == 88) = true then c.toUpper else c).toNat) [] g = figT b k n := by
  have e : (Nat.toDigits b n).map (fun c => (if (t == 88) = true then c.toUpper else c).toNat) = (Nat.toDigits b n).map Char.toNat := List.map_congr_left fun c _ => by rw [ht]; rfl
  have hd : ((Nat.toDigits b n).map Char.toNat).isEmpty = false := by
    have := tDigits_len_ge b n
    cases q : Nat.toDigits b n with
    | nil => rw [q] at this; exact absurd this (by decide)
    | cons x r => rfl
  rw [e, intField'_zero_nonneg f _ g h1 h2 hd h3 h4, h5, List.length_map]
  rfl
theorem gives04x (n : Nat) (t u : Tok) : Gives («int.__format__» ⟨[.int (n : Nat) t, .str "04x" u], []⟩) (.str (figT 16 4 n)) := by
  unfold «int.__format__»
  have e1 : selfAndOne "int.__format__" ⟨[.int (n : Nat) t, .str "04x" u], []⟩ = (pure (.int (n : Nat) t, .str "04x" u) : Sem (Value × Value)) := rfl
  have e2 : intOfSelf (.int (n : Nat) t) = (pure (n : Int) : Sem Int) := rfl
  simp only [e1, e2, pure_bind]
  have c0 : ¬ ((Value.str ("04x" : Str) u == Value.none) = true) := by intro h; cases h
  rw [if_neg c0]
  refine gives_after_typeNameOf (T := "str") (fun s => typeIs_str s _ _) (by decide) fun kind => ?_
  have e3 : asStr? (.str "04x" u) = (pure (some "04x") : Sem (Option Str)) := rfl
  simp only [e3, pure_bind]
  have c1 : ¬ ((("04x" : Str).length == 0) = true) := by decide +kernel
  rw [if_neg c1]
  have c2 : ¬ ((((List.drop 1 ("04x" : Str).cps.toList).any fun x => decide (x ≥ 128)) || decide (("04x" : Str).cps.getD 0 0 ≥ 128) && !([60, 62, 61, 94] : List Nat).contains (("04x" : Str).cps.getD 1 0)) = true) := by decide +kernel
  rw [if_neg c2]
  refine gives_cut (T := "int") (fun prog w A s Q E h => wpAny_typeNameOfCut_int h) ?_
  rw [p04x]
  dsimp only
  have e5 : f04x.type.getD (if (("04x" : Str).cps.back? == some 0) = true then 0 else 100) = 120 := rfl
  rw [e5, if_pos (by decide +kernel)]
  refine gives_as (a := retStr (intField' f04x (decide ((n : Int) < 0)) [] ((Nat.toDigits 16 (n : Int).natAbs).map fun c => (if (120 : Nat) == 88 then c.toUpper else c).toNat) [] 4)) ?_ ?_
  · rfl
  rw [decide_eq_false (by omega), Int.natAbs_natCast, figs_eq (b := 16) (k := 4) (t := 120) (by decide) rfl rfl rfl rfl rfl]
  exact .of_eq rfl
theorem gives016b (n : Nat) (t u : Tok) : Gives («int.__format__» ⟨[.int (n : Nat) t, .str "016b" u], []⟩) (.str (figT 2 16 n)) := by
  unfold «int.__format__»
  have e1 : selfAndOne "int.__format__" ⟨[.int (n : Nat) t, .str "016b" u], []⟩ = (pure (.int (n : Nat) t, .str "016b" u) : Sem (Value × Value)) := rfl
  have e2 : intOfSelf (.int (n : Nat) t) = (pure (n : Int) : Sem Int) := rfl
  simp only [e1, e2, pure_bind]
  have c0 : ¬ ((Value.str ("016b" : Str) u == Value.none) = true) := by intro h; cases h
  rw [if_neg c0]
  refine gives_after_typeNameOf (T := "str") (fun s => typeIs_str s _ _) (by decide) fun kind => ?_
  have e3 : asStr? (.str "016b" u) = (pure (some "016b") : Sem (Option Str)) := rfl
  simp only [e3, pure_bind]
  have c1 : ¬ ((("016b" : Str).length == 0) = true) := by decide +kernel
  rw [if_neg c1]
  have c2 : ¬ ((((List.drop 1 ("016b" : Str).cps.toList).any fun x => decide (x ≥ 128)) || decide (("016b" : Str).cps.getD 0 0 ≥ 128) && !([60, 62, 61, 94] : List Nat).contains (("016b" : Str).cps.getD 1 0)) = true) := by decide +kernel
  rw [if_neg c2]
  refine gives_cut (T := "int") (fun prog w A s Q E h => wpAny_typeNameOfCut_int h) ?_
  rw [p016b]
  dsimp only
  have e5 : f016b.type.getD (if (("016b" : Str).cps.back? == some 0) = true then 0 else 100) = 98 := rfl
  rw [e5, if_pos (by decide +kernel)]
  refine gives_as (a := retStr (intField' f016b (decide ((n : Int) < 0)) [] ((Nat.toDigits 2 (n : Int).natAbs).map fun c => (if (98 : Nat) == 88 then c.toUpper else c).toNat) [] 4)) ?_ ?_
  · rfl
  rw [decide_eq_false (by omega), Int.natAbs_natCast, figs_eq (b := 2) (k := 16) (t := 98) (by decide) rfl rfl rfl rfl rfl]
  exact .of_eq rfl
theorem fig_short {b k n : Nat} (hk : k ≤ 16) (hn : n < 65536) : (figT b k n).length ≤ sizeLine := by
  have h := tDigits_len_le b n
  have e : (figT b k n).length = (List.replicate (k - (Nat.toDigits b n).length) 48 ++ (Nat.toDigits b n).map Char.toNat).length := List.size_toArray
  rw [e, List.length_append, List.length_replicate, List.length_map]
  exact Nat.le_trans (show k - (Nat.toDigits b n).length + (Nat.toDigits b n).length ≤ 100000 by omega) (by decide)
/-- {e:04x}, {e:016b} of a word -/
def tFig (b k : Nat) (te : L2.TE) : L2.TE := fun σ H Q => te σ H fun x H1 => ∃ n : Nat, x = .int (n : Nat) ∧ n < 65536 ∧ Q (.str (figT b k n)) H1
section
variable {X : L2.Cx}
theorem pe_fig {sp : Str} {b k : Nat} {e spec : Expr} {te : L2.TE} {pos : Pos} (he : L2.PE X e te) (hs : L2.PE X spec (L2.tC (.str sp))) (hk : k ≤ 16) (hne : (sp.length == 0) = false) (hz : sp.length ≤ sizeLine) (g : ∀ (n : Nat) (t u : Tok), Gives («int.__format__» ⟨[.int (n : Nat) t, .str sp u], []⟩) (.str (figT b k n))) : L2.PE X (.FormattedValue e (-1) (some spec) pos) (tFig b k te) := by
  constructor
  intro pins s σ H Q I h
  refine wpAny_FormattedValue_spec (L2.thn (he.run pins s σ H _ I h) fun v s1 hv => ?_)
  obtain ⟨x, H1, I1, r1, n, rfl, hn, q⟩ := hv
  obtain ⟨t, rfl⟩ := r1
  refine L2.thn (hs.run pins s1 σ H1 (fun y G => y = .str sp ∧ G = H1) I1 ⟨rfl, rfl⟩) fun u s2 hu => ?_
  obtain ⟨y, G, I2, r2, ey, eG⟩ := hu
  subst ey eG
  obtain ⟨t2, rfl⟩ := r2
  exact ⟨sp, t2, rfl, wpAny_formatField_spec hne (fun s' => typeIs_int s' _ t) F.slot_int_format F.entry_int_format (fun a b => F.args_int_format_2 a b) (fun u => g n t u) ⟨.str (figT b k n), G, I2.tok _, ⟨_, rfl⟩, q⟩ hz (fig_short hk hn)⟩
theorem pe_04x {e : Expr} {te : L2.TE} {pos p1 p2 : Pos} {j : Nat} (he : L2.PE X e te) : L2.PE X (.FormattedValue e (-1) (some (.JoinedStr [.Constant (.str "04x") j p1] p2)) pos) (tFig 16 4 te) :=
  pe_fig (sp := "04x") he (L2.pe_joined1 L2.pe_str) (by decide) (by decide +kernel) (by decide +kernel) gives04x
theorem pe_016b {e : Expr} {te : L2.TE} {pos p1 p2 : Pos} {j : Nat} (he : L2.PE X e te) : L2.PE X (.FormattedValue e (-1) (some (.JoinedStr [.Constant (.str "016b") j p1] p2)) pos) (tFig 2 16 te) :=
  pe_fig (sp := "016b") he (L2.pe_joined1 L2.pe_str) (by decide) (by decide +kernel) (by decide +kernel) gives016b
end
end Bm
set_option maxHeartbeats 1000000
/-! texts as lists of signs -/
namespace Bm
open PySem PySem.Spec PyProof.Rows L2
def sg (x : Str) : List Nat := x.cps.toList
theorem sg_ext {a b : Str} (h : sg a = sg b) : a = b := PySem.Str.ext' (Array.toList_inj.mp h)
theorem sg_app (a b : Str) : sg (a ++ b) = sg a ++ sg b := by
  unfold sg
  rw [PySem.Str.cps_append, Array.toList_append]
theorem sg_len (a : Str) : (sg a).length = a.length := Array.length_toList
theorem sg_empty : sg Str.empty = [] := rfl
def mk (l : List Nat) : Str := ⟨l.toArray⟩
theorem sg_mk (l : List Nat) : sg (mk l) = l := by
  unfold sg mk
  simp
theorem mk_sg (a : Str) : mk (sg a) = a := sg_ext (sg_mk _)
/-- a text so many times -/
def repS (x : Str) (n : Nat) : Str := mk (List.replicate n (sg x)).flatten
theorem rep_fold (x : Array Nat) : ∀ (n : Nat) (acc : Array Nat), ((List.replicate n x).foldl (· ++ ·) acc).toList = acc.toList ++ (List.replicate n x.toList).flatten
  | 0, acc => by simp
  | n + 1, acc => by
    rw [List.replicate_succ, List.foldl_cons, rep_fold x n, List.replicate_succ, List.flatten_cons, Array.toList_append, List.append_assoc]
theorem flat_len (l : List Nat) (n : Nat) : (List.replicate n l).flatten.length = n * l.length := by
  induction n with
  | zero => simp
  | succ n ih => rw [List.replicate_succ, List.flatten_cons, List.length_append, ih, Nat.succ_mul, Nat.add_comm]
/-- x * n -/
def rRepS : R2 := fun x y H Q => ∃ (a : Str) (n : Int), x = .str a ∧ y = .int n ∧ -1000 ≤ n ∧ n ≤ 1000 ∧ a.length ≤ 1000 ∧ Q (.str (repS a n.toNat)) H
theorem op_repS {X : Cx} : OpR X (binaryOp .Mult) rRepS := by
  intro pins s σ H x y v u Q I rx ry h
  obtain ⟨a, n, rfl, rfl, h0, h1, hz, q⟩ := h
  obtain ⟨t, rfl⟩ := rx
  obtain ⟨t', rfl⟩ := ry
  have q2 : ∀ (z : Str) (t : Tok) (k : Nat), z = repS a n.toNat → EP X pins σ Q (.str z t) { s with toks := k } := fun z t k e => ⟨.str z, H, I.tok k, ⟨t, rfl⟩, by rw [e]; exact q⟩
  have len : a.length * n.toNat ≤ 1000000 := by
    have : a.length * n.toNat ≤ 1000 * 1000 := Nat.mul_le_mul hz (by omega)
    omega
  have lz : a.length * n.toNat ≤ sizeLine := Nat.le_trans len (by decide)
  have nl : Builtin.Str.tooLong (a.length * n.toNat) = false := by
    unfold Builtin.Str.tooLong
    exact decide_eq_false (Nat.not_lt.mpr lz)
  refine P.mul_str (by rw [decide_eq_false (by omega), decide_eq_false (by omega)]; rfl) (fun g _ => ?_) (fun _ _ => nl) ?_
  · have g1 : (1 : Int) ≤ n := by omega
    have g2 : (1000 : Int) ≤ (2 ^ 63 - 1) / n := Int.le_ediv_of_mul_le (by omega) (by omega)
    omega
  · by_cases c : n < 1
    · rw [if_pos c]
      refine ⟨by decide, q2 _ _ _ (sg_ext ?_)⟩
      unfold repS
      rw [sg_mk, show n.toNat = 0 by omega]
      rfl
    · rw [if_neg c]
      by_cases d : (n == 1 || a.length == 0) = true
      · rw [if_pos d]
        refine q2 _ t s.toks (sg_ext ?_)
        unfold repS
        rw [sg_mk]
        rcases Bool.or_eq_true _ _ ▸ d with d | d
        · rw [beq_iff_eq.mp d]
          simp
        · have e : sg a = [] := List.eq_nil_of_length_eq_zero (by rw [sg_len]; exact beq_iff_eq.mp d)
          rw [e]
          simp
      · rw [if_neg d]
        have e : (⟨(List.replicate n.toNat a.cps).foldl (· ++ ·) #[]⟩ : Str) = repS a n.toNat := sg_ext (by
          unfold repS
          rw [sg_mk]
          have := rep_fold a.cps n.toNat #[]
          rw [List.nil_append] at this
          exact this)
        rw [e]
        refine ⟨?_, q2 _ _ _ rfl⟩
        have e2 : (repS a n.toNat).length = n.toNat * a.length := by
          rw [← sg_len]
          unfold repS
          rw [sg_mk, flat_len, sg_len]
        rw [e2, Nat.mul_comm]
        exact lz
end Bm
set_option maxHeartbeats 400000
namespace Bm
open PySem PySem.Spec PyProof.Rows L2
theorem Same.mut {H H' : Hp} {p : Addr} {o : HO} (e : Same H H') (h : H p = none) : Same H (upd H' p o) := fun a u ha => by
  rw [upd_ne (ne_of_none ha h)]
  exact e a u ha
theorem walk_zipT {K : PySem.W.Frag} {a b : Addr} {xs ys : List V} {n : Nat} (hn : n = min xs.length ys.length) : Walk (RZ.ItzT K a b) n (fun H => SqT K H a xs ∧ SqT K H b ys) (YPair (fun i => xs[i]?) (fun i => ys[i]?)) := by
  subst hn
  constructor
  · intro n _ ln g
    exact ⟨xs, ys, xs[n]'(by omega), ys[n]'(by omega), g.1, g.2, List.getElem?_eq_getElem (by omega), List.getElem?_eq_getElem (by omega)⟩
  · exact fun _ g => ⟨xs, ys, g.1, g.2, by omega⟩
  · rintro n G v G2 _ g ⟨T, p, r, e1, e2, e3, a1, a2⟩
    exact ⟨T, p, r, e1, e2, e3, a1 xs g.1, a2 ys g.2⟩
/-! in, of a tuple of any data -/
def rInT (K : PySem.W.Frag) : R2 := fun x y H Q => ∃ d ds, Dp K H x d ∧ Dp K H y (.tuple ds) ∧ SeqAt.shaped d = true ∧ SeqAt.shaped (.tuple ds) = true ∧ Q (.bl (ds.any fun z => PyData.eqv z d)) H
theorem op_inT {X : Cx} (hu : X.A.units + 65 < cLine) : OpR X (compareOp .In) (rInT X.K) := by
  intro pn s0 σ G a b va vb Q J ra rb ⟨d, ds, g1, g2, sh1, sh2, q⟩
  have w1 := Dp.reads J d a va g1 ra
  have w2 := Dp.reads J (.tuple ds) b vb g2 rb
  exact SeqAt.in_tuple_reads w2.choose_spec w1.choose_spec (SeqAt.canLay_of_shaped sh2) (SeqAt.canLay_of_shaped sh1) (room_in_shaped sh1 hu) ⟨.bl _, G, J, rfl, q⟩
/-- in: flat items, or any data in a tuple -/
def rIn2 (K : PySem.W.Frag) : R2 := fun x y H Q => rIn K false x y H Q ∨ rInT K x y H Q
theorem op_in2 {X : Cx} (hu : X.A.units + 65 < cLine) : OpR X (compareOp .In) (rIn2 X.K) := by
  intro pn s0 σ G a b va vb Q J ra rb w
  exact w.elim (fun w => op_in_seq pn s0 σ G a b va vb Q J ra rb w) (fun w => op_inT hu pn s0 σ G a b va vb Q J ra rb w)
theorem hu65 {A : Around} {k : Nat} (hr : Room k A) : A.units + 65 < cLine := by
  have := hr.un
  omega
/-! a value's kind -/
inductive Knd (K : PySem.W.Frag) (H : Hp) : V → String → Prop
  | int (i : Int) : Knd K H (.int i) "int"
  | bl (b : Bool) : Knd K H (.bl b) "bool"
  | str (x : Str) : Knd K H (.str x) "str"
  | non : Knd K H .non "NoneType"
  | tup {a : Addr} {xs : List V} (h : SqT K H a xs) : Knd K H (.ref a) "tuple"
  | lst {a : Addr} {xs : List V} (h : SqL K H a xs) : Knd K H (.ref a) "list"
theorem Knd.ty {K : PySem.W.Frag} {H : Hp} {v : V} {t : String} (h : Knd K H v t) : TyX K H v (.type t) := by
  cases h with
  | int i => exact .base (.int i)
  | bl b => exact .base (.bl b)
  | str x => exact .base (.str x)
  | non => exact .base .non
  | tup h =>
    rcases h with (h | ⟨o, h⟩) | ⟨o, its, n, h1, h2, _⟩
    · exact .base (.tup h)
    · exact .fTuple h
    · exact .kTuple h1 h2
  | lst h =>
    rcases h with (h | ⟨o, h⟩) | ⟨o, its, n, h1, h2, _⟩
    · exact .base (.lst h)
    · exact .base (.frz h)
    · exact .kList h1 h2
/-- isinstance(x, t) -/
theorem isi {K : PySem.W.Frag} {H : Hp} {v : V} {t c : String} {b : Bool} {Q : VK} (h : Knd K H v t) (hk : kitB t c = some b) (q : Q (.bl b) H) : rIsi K [v, .ty c] H Q :=
  ⟨_, _, _, _, _, rfl, .ty c, h.ty, kit_ty hk, q⟩
end Bm
namespace Bm
open PySem PySem.Spec PyProof.Rows L2
/-! slices -/
theorem cut_tail (x : V) (r : List V) : cutV (x :: r) (some 1) none = r := by
  have e : HT.sIx (x :: r).length 0 (some ((1 : Nat) : Int)) = 1 := by
    rw [HT.sIx_nat, List.length_cons]
    omega
  have e1 : HT.sIx (x :: r).length 0 (some 1) = 1 := e
  unfold cutV
  rw [e1, HT.sIx_none, List.length_cons]
  show (r.take (r.length + 1 - 1)) = r
  rw [Nat.add_sub_cancel, List.take_length]
theorem not_whole_tail (x : V) (r : List V) : ¬ (HT.sIx (x :: r).length 0 (some 1) = 0 ∧ HT.sIx (x :: r).length (x :: r).length none = (x :: r).length) := by
  have e : HT.sIx (x :: r).length 0 (some ((1 : Nat) : Int)) = 1 := by
    rw [HT.sIx_nat, List.length_cons]
    omega
  intro z
  have e1 : HT.sIx (x :: r).length 0 (some 1) = 1 := e
  rw [e1] at z
  cases z.1
theorem at0 {x : V} {r : List V} : atI (x :: r) 0 = some x := atI_nat (j := 0) rfl
theorem take_succ' {α : Type} {l : List α} {i : Nat} {x : α} (h : l[i]? = some x) : l.take (i + 1) = l.take i ++ [x] := by
  rw [List.take_succ, h]
  rfl
end Bm
set_option maxHeartbeats 800000
/-! a tuple and a list, side by side -/
namespace Bm
open PySem PySem.Spec PyProof.Rows L2
def ItM (K : PySem.W.Frag) (l r : Addr) : It :=
  ⟨fun n H => ∃ (ls rs : List V) (p q : V), SqT K H l ls ∧ SqL K H r rs ∧ ls[n]? = some p ∧ rs[n]? = some q,
    fun n H v H2 => ∃ T p q, v = .ref T ∧ H T = none ∧ H2 = upd H T (.tup [p, q]) ∧ (∀ ls, SqT K H l ls → ls[n]? = some p) ∧ ∀ rs, SqL K H r rs → rs[n]? = some q,
    fun n H => ∃ ls rs : List V, SqT K H l ls ∧ SqL K H r rs ∧ n ≤ ls.length ∧ n ≤ rs.length ∧ (n = ls.length ∨ n = rs.length)⟩
theorem sep_of {z TI TO j1 j2 l r : Addr} (Z : ZipApart z TI TO j1 j2 l r) : ZipSep2 z TI TO j1 j2 [j1, l] [j2, r] where
  TIz := Z.TIz
  TOz := Z.TOz
  TITO := Z.TITO
  TIi1 := Z.TIi1
  mem1 := List.mem_cons_self ..
  zf1 := fun w => by rcases List.mem_cons.mp w with e | w; exact Z.i1z e.symm; exact Z.l1z (List.mem_singleton.mp w).symm
  Tf1 := fun w => by rcases List.mem_cons.mp w with e | w; exact Z.TOi1 e; exact Z.l1TO (List.mem_singleton.mp w).symm
  TIi2 := Z.TIi2
  mem2 := List.mem_cons_self ..
  zf2 := fun w => by rcases List.mem_cons.mp w with e | w; exact Z.i2z e.symm; exact Z.l2z (List.mem_singleton.mp w).symm
  Tf2 := fun w => by rcases List.mem_cons.mp w with e | w; exact Z.TOi2 e; exact Z.l2TO (List.mem_singleton.mp w).symm
  sep1_2 := fun w => by rcases List.mem_cons.mp w with e | w; exact Z.i12 e; exact Z.l2i1 (List.mem_singleton.mp w).symm
  sep2_1 := fun w => by rcases List.mem_cons.mp w with e | w; exact Z.i12 e.symm; exact Z.l1i2 (List.mem_singleton.mp w).symm
theorem five_of {z TI TO j1 j2 c : Addr} (w : c ∈ [z, TI, TO, j1, j2]) : c = z ∨ c = TI ∨ c = TO ∨ c = j1 ∨ c = j2 := by simpa using w
theorem turnM {P : Program} {W : World} {K : PySem.W.Frag} {es : List Expr} {n0 : Nat} {tp : Pos} {l r z TI TO j1 j2 : Addr} (Z : ZipApart z TI TO j1 j2 l r) :
    Turn P W K (.Tuple es n0 tp) (ItM K l r) [z, TI, TO, j1, j2] z (fun n g => IsZip g z TI TO .none ∧ IsPair g TI (.ref j1) (.ref j2) ∧ (∃ p q, IsPair g TO p q) ∧ g.IsTupleIter j1 l n ∧ g.IsListIter j2 r n) where
  mem := List.mem_cons_self ..
  obj := fun n g st c w => by
    obtain ⟨gz, gTI, ⟨p, q, gTO⟩, ⟨u1, f1, _, d1⟩, ⟨u2, f2, _, d2⟩⟩ := st
    rcases five_of w with e | e | e | e | e <;> subst e
    · exact ⟨_, gz, fun v z => nomatch z⟩
    · exact ⟨_, gTI, fun v z => nomatch z⟩
    · exact ⟨_, gTO, fun v z => nomatch z⟩
    · exact ⟨u1, f1, fun v z => by rw [d1] at z; cases z⟩
    · exact ⟨u2, f2, fun v z => by rw [d2] at z; cases z⟩
  keep := fun n g g' st k => by
    obtain ⟨gz, gTI, ⟨p, q, gTO⟩, t1, t2⟩ := st
    exact ⟨k z (by simp) _ gz, k TI (by simp) _ gTI, ⟨p, q, k TO (by simp) _ gTO⟩, t1.at fun u z => k j1 (by simp) u z, t2.at fun u z => k j2 (by simp) u z⟩
  item := by
    intro X eP eW eK hc n pins s σ H E I hf st hg
    subst eP eW eK
    obtain ⟨gz, gTI, ⟨p0, q0, gTO⟩, t1, t2⟩ := st
    obtain ⟨ls, rs, p, q, sl, sr, ep, eq⟩ := hg
    obtain ⟨its, rv, pt, _⟩ := I.tuple sl
    obtain ⟨jts, rw_, pl, _⟩ := I.list sr
    obtain ⟨u, hu, ru⟩ := rv.get ep
    obtain ⟨v, hv, rv2⟩ := rw_.get eq
    have nu : n < its.toArray.size := by simpa using (List.getElem?_eq_some_iff.mp hu).1
    have nv : n < jts.toArray.size := by simpa using (List.getElem?_eq_some_iff.mp hv).1
    have lz : z < s.heap.objs.size := Heap.lt_size gz
    have hh := I.ok.hd hc
    have D1 := Draws.tuple (prog := X.prog) (w := X.w) (A := X.A.in1) hh j1 l Z.l1i1 its.toArray
    have D2 := Draws.list (prog := X.prog) (w := X.w) (A := X.A.in1) hh j2 r Z.l2i2 jts.toArray
    refine wpAny_pyNext_zipD2_item (sep_of Z) D1 D2 gz gTI gTO ⟨t1, pt⟩ ⟨t2, pl.isList⟩ nu nv fun x1 x2 h' tk y1 y2 z' TO' s1' s2' hT hsz hk => ?_
    have e1 : x1 = u := by
      have y1' : its.toArray[n]? = some x1 := y1
      have hu' : its.toArray[n]? = some u := by simpa using hu
      exact Option.some.inj (y1'.symm.trans hu')
    have e2 : x2 = v := by
      have y2' : jts.toArray[n]? = some x2 := y2
      have hv' : jts.toArray[n]? = some v := by simpa using hv
      exact Option.some.inj (y2'.symm.trans hv')
    subst e1 e2
    refine ⟨_, rfl, wpAny_letOwnedTupleGo_zip (s := { s with heap := h', toks := tk }) z' fun h2 z2 sb => ?_⟩
    have far : ∀ c, c ∉ [z, TI, TO, j1, j2] → ∀ o, s.heap.get? c = some o → h2.get? c = some o := fun c w o e =>
      (sb.2 c fun m => w (by simp [m])).trans (hk c o (fun m => w (by simp [m])) (fun m => w (by simp [m])) (fun m => w (by simp [m])) (fun m => w (by simp [m])) e)
    have hT2 : h2.get? s.heap.objs.size = some { cls := .type "tuple", data := .seq #[x1, x2] } := (sb.2 _ (Nat.ne_of_gt lz)).trans hT
    have fresh : ObjOk X.prog X.w (upd H s.heap.objs.size (.tup [p, q])) h2 s.heap.objs.size (.tup [p, q]) :=
      ⟨Nat.le_trans (by decide : 2 ≤ 100000) (by decide), [x1, x2], .cons ru (.cons rv2 .nil), ⟨_, hT2, rfl, _, rfl⟩⟩
    have I2 : Inv X pins σ (upd H s.heap.objs.size (.tup [p, q])) { s with heap := h2, toks := tk } :=
      I.turnedNew (t' := tk) (ch := [z, TI, TO, j1, j2]) (fun c o w e => far c w o e) hf (Nat.le_refl _) fresh
    refine ⟨.ref s.heap.objs.size, _, I2, rfl, ⟨_, p, q, rfl, I.hok.fresh (Nat.le_refl _), rfl, fun m hm => by rw [I.tuple_inj hm sl]; exact ep, fun m hm => by rw [I.list_inj hm sr]; exact eq⟩, ⟨z2, ?_, ⟨x1, x2, ?_⟩, ?_, ?_⟩, fun c w => ?_⟩
    · exact (sb.2 _ Z.TIz).trans (hk _ _ Z.TIz Z.TITO Z.TIi1 Z.TIi2 gTI)
    · exact (sb.2 _ Z.TOz).trans TO'
    · exact s1'.1.at fun o m => (sb.2 _ Z.i1z).trans m
    · exact s2'.1.at fun o m => (sb.2 _ Z.i2z).trans m
    · have lt : c < s.heap.objs.size := by
        rcases five_of w with e | e | e | e | e <;> rw [e]
        · exact lz
        · exact Heap.lt_size gTI
        · exact Heap.lt_size gTO
        · obtain ⟨_, m, _⟩ := t1; exact Heap.lt_size m
        · obtain ⟨_, m, _⟩ := t2; exact Heap.lt_size m
      rw [upd_ne (Nat.ne_of_lt lt)]
      exact (hf c w).1
  done := by
    intro X eP eW eK hc n pins s σ H E I hf st hg
    subst eP eW eK
    obtain ⟨gz, gTI, ⟨p0, q0, gTO⟩, t1, t2⟩ := st
    obtain ⟨ls, rs, sl, sr, n1, n2, n3⟩ := hg
    obtain ⟨its, rv, pt, _⟩ := I.tuple sl
    obtain ⟨jts, rw_, pl, _⟩ := I.list sr
    have m1 : its.toArray.size = ls.length := by simp [rv.length]
    have m2 : jts.toArray.size = rs.length := by simp [rw_.length]
    have hh := I.ok.hd hc
    have D1 := Draws.tuple (prog := X.prog) (w := X.w) (A := X.A.in1) hh j1 l Z.l1i1 its.toArray
    have D2 := Draws.list (prog := X.prog) (w := X.w) (A := X.A.in1) hh j2 r Z.l2i2 jts.toArray
    refine wpAny_pyNext_zipD2_end (sep_of Z) D1 D2 gz gTI gTO ⟨t1, pt⟩ ⟨t2, pl.isList⟩ (by omega) (by omega) (by omega) fun h' tk hk => ⟨rfl, ?_⟩
    exact I.turnedL (t' := tk) (ch := [z, TI, TO, j1, j2]) (fun c o w e => hk c o (fun m => w (by simp [m])) (fun m => w (by simp [m])) (fun m => w (by simp [m])) (fun m => w (by simp [m])) e) hf
  self := fun A n s Q E st q => wpAny_pyIter_zip st.1 q
def iZipM (K : PySem.W.Frag) (ta : TA) : TI := fun σ H R => ta σ H fun vs H1 => ∃ l r ls rs, vs = [.ref l, .ref r] ∧ SqT K H1 l ls ∧ SqL K H1 r rs ∧ R (ItM K l r) H1
theorem pi_zipM {X : Cx} {e e2 : Expr} {ta : TA} {p pos tp : Pos} {es : List Expr} {n0 : Nat} (hg : Gl X "zip") (hm : X.mg "zip" = none) (ha : PA X [e, e2] ta)
    (star1 : starEach [e, e2] X.env = (false, eval e X.env) :: starEach [e2] X.env := by rfl) (star2 : (backTo pos (starEach [e2] X.env)).any (·.1) = false := by rfl) :
    PI X (.Tuple es n0 tp) (.Call (.Name "zip" p) [e, e2] [] pos) (iZipM X.K ta) := by
  refine ⟨fun pins s σ H R I w => ?_⟩
  refine Call_ (ld_blt I hg hm PyProof.Rows.boot_zip (PyProof.Rows.callWith_type1 (thn (ha.run pos pins s σ H _ I w) fun us s1 ⟨vs, H1, I1, r1, q1⟩ => ?_) star1 star2))
  obtain ⟨l, r, ls, rs, rfl, sl, sr, q⟩ := q1
  cases r1 with
  | cons c1 r1 =>
    cases r1 with
    | cons c2 r1 =>
      cases r1
      cases c1
      cases c2
      have fresh : ∀ c, c ∈ [s1.heap.objs.size + 4, s1.heap.objs.size + 2, s1.heap.objs.size + 3, s1.heap.objs.size, s1.heap.objs.size + 1] → FpOk X pins H1 c := fun c w => by
        have le : s1.heap.objs.size ≤ c := by
          rcases five_of w with e | e | e | e | e <;> rw [e] <;> first | exact Nat.le_refl _ | exact Nat.le_add_right _ _
        exact I1.fpOk le (I1.hok.fresh le)
      obtain ⟨its, rv, pt, _⟩ := I1.tuple sl
      obtain ⟨jts, rw_, pl, _⟩ := I1.list sr
      obtain ⟨o1, f1, _⟩ := id pt
      refine zip_begins2 (begins_tuple l its.toArray) (begins_list r jts.toArray) pt pl.isList fun h' gz gTI gTO b1 b2 _ hk => wpAny_pyIter_zip gz ?_
      have J2 : Inv X pins σ H1 { s1 with heap := h' } := I1.kept (t' := s1.toks) hk
      exact ⟨s1.heap.objs.size + 4, [s1.heap.objs.size + 4, s1.heap.objs.size + 2, s1.heap.objs.size + 3, s1.heap.objs.size, s1.heap.objs.size + 1], _, _, H1, rfl, J2, turnM (PySem.W.ktu_apart s1.heap.objs.size l r (Heap.lt_size f1) pl.lt),
        ⟨gz, gTI, ⟨_, _, gTO⟩, ⟨_, b1, rfl, rfl⟩, ⟨_, b2, rfl, rfl⟩⟩, fresh, q⟩
theorem walk_zipM {K : PySem.W.Frag} {l r : Addr} {xs ys : List V} {n : Nat} (h1 : n = xs.length) (h2 : n = ys.length) : Walk (ItM K l r) n (fun H => SqT K H l xs ∧ SqL K H r ys) (YPair (fun i => xs[i]?) (fun i => ys[i]?)) := by
  refine ⟨fun i _ hi q => ?_, fun _ q => ⟨xs, ys, q.1, q.2, by omega, by omega, by omega⟩, fun i H v H2 _ q y => ?_⟩
  · have m1 : i < xs.length := by omega
    have m2 : i < ys.length := by omega
    exact ⟨xs, ys, xs[i], ys[i], q.1, q.2, by simp [m1], by simp [m2]⟩
  · obtain ⟨T, x, z, e1, e2, e3, e4, e5⟩ := y
    exact ⟨T, x, z, e1, e2, e3, e4 xs q.1, e5 ys q.2⟩
end Bm
set_option maxHeartbeats 1000000
/-! enumerate of a tuple -/
namespace Bm
open PySem PySem.Spec PyProof.Rows L2
abbrev enH (g : Heap) (u : Obj) : Heap := (g.push u).push { cls := .type "enumerate", data := .fields #[.none, .bool false, .ref g.objs.size, rawInt 0, .none, .none] }
theorem meets_enum1 {v : Value} {u : Obj} {G : Heap → Prop} (B : Begins v u G) :
    Meets (Builtin.«enumerate.__new__» ⟨[.type "enumerate", v], []⟩) (fun _ R s => G s.heap ∧ R (.ok (.ret (.ref (s.heap.push u).objs.size))) { s with heap := enH s.heap u }) :=
  .of_wp fun P W A R s w => by
    obtain ⟨hp, gs, dr, tk, os⟩ := s
    obtain ⟨b1, w⟩ := w
    have sub_ := sub_enumerate
    have nx : ∀ {A2 : Around} {E2 : Value → Shared → Prop} {Q2 : Value → Shared → Prop}, Q2 (.ref hp.objs.size) ⟨hp.push u, gs, dr, tk, os⟩ → wpAny (model P W) A2 (pyIter v) Q2 E2 ⟨hp, gs, dr, tk, os⟩ :=
      fun z => B.iter P W _ _ ⟨hp, gs, dr, tk, os⟩ _ b1 z
    wp_walk using nx
    refine wpAny_stack_any fun st => wpAny_pure ?_
    split
    · rename_i c _ _ _ _ _
      cases (c == Value.type "enumerate") <;> (wp_walk using nx; exact ⟨_, rfl, w⟩)
    · wp_walk using nx
      exact ⟨_, rfl, w⟩
theorem call_enum1 {P : Program} {W : World} {A : Around} {E : Value → Shared → Prop} {s : Shared} {v : Value} {u : Obj} {G : Heap → Prop} {Q : Value → Shared → Prop} (B : Begins v u G) (b1 : G s.heap)
    (w : ∀ g, IsEnum g (s.heap.objs.size + 1) s.heap.objs.size 0 .none → g.get? s.heap.objs.size = some u → g.objs.size = s.heap.objs.size + 2 → (∀ b o, s.heap.get? b = some o → g.get? b = some o) → Q (.ref (s.heap.objs.size + 1)) { s with heap := g }) :
    wpAny (model P W) A (call (.type "enumerate") [v]) Q E s := by
  refine callType_new F.called_enumerate (by decide) (F.typeCall_enumerate_1 _) (F.newCall_enumerate_1 _) (fun o => F.args_object_init_2 o _) F.entry_enumerate_new (meets_enum1 B) ⟨b1, ?_⟩
  have z1 : (s.heap.push u).objs.size = s.heap.objs.size + 1 := Heap.size_push ..
  have e1 : (enH s.heap u).get? (s.heap.push u).objs.size = some _ := Heap.get?_push_size _ rfl
  show _ ∧ _
  rw [z1] at e1 ⊢
  exact ⟨⟨_, e1, rfl⟩, w _ e1 (Heap.get?_push_of_some _ (Heap.get?_push_size _ B.free)) (by rw [Heap.size_push, z1]) fun b o m => Heap.get?_push_of_some _ (Heap.get?_push_of_some _ m)⟩
def IteT (K : PySem.W.Frag) (l : Addr) : It :=
  ⟨fun n H => ∃ (ls : List V) (p : V), SqT K H l ls ∧ ls[n]? = some p,
    fun n H v H2 => ∃ T p, v = .ref T ∧ H T = none ∧ H2 = upd H T (.tup [.int (n : Nat), p]) ∧ ∀ ls, SqT K H l ls → ls[n]? = some p,
    fun n H => ∃ ls : List V, SqT K H l ls ∧ ls.length = n⟩
theorem two_of {e j c : Addr} (w : c ∈ [e, j]) : c = e ∨ c = j := by simpa using w
theorem turnEnT {P : Program} {W : World} {K : PySem.W.Frag} {es : List Expr} {n0 : Nat} {tp : Pos} {l e j : Addr} (lj : l ≠ j) (el : e ≠ l) (ej : e ≠ j) :
    Turn P W K (.Tuple es n0 tp) (IteT K l) [e, j] e (fun n g => (∃ old, IsEnum g e j ((n : Nat) : Int) old) ∧ g.IsTupleIter j l n) where
  mem := List.mem_cons_self ..
  obj := fun n g st c w => by
    obtain ⟨⟨old, ge⟩, ⟨u1, f1, _, d1⟩⟩ := st
    rcases two_of w with m | m <;> subst m
    · exact ⟨_, ge, fun v z => nomatch z⟩
    · exact ⟨u1, f1, fun v z => by rw [d1] at z; cases z⟩
  keep := fun n g g' st k => by
    obtain ⟨⟨old, ge⟩, t1⟩ := st
    exact ⟨⟨old, k e (by simp) _ ge⟩, t1.at fun u z => k j (by simp) u z⟩
  item := by
    intro X eP eW eK hc n pins s σ H E I hf st hg
    subst eP eW eK
    obtain ⟨⟨old, ge⟩, t1⟩ := st
    obtain ⟨ls, p, sl, ep⟩ := hg
    obtain ⟨its, rv, pt, _⟩ := I.tuple sl
    obtain ⟨u, hu, ru⟩ := rv.get ep
    have nu : n < its.toArray.size := by simpa using (List.getElem?_eq_some_iff.mp hu).1
    have le : e < s.heap.objs.size := Heap.lt_size ge
    have lj2 : j < s.heap.objs.size := by obtain ⟨_, m, _⟩ := t1; exact Heap.lt_size m
    have D1 := Draws.tuple (prog := X.prog) (w := X.w) (A := X.A.in1) (I.ok.hd hc) j l lj its.toArray
    have ef : e ∉ [j, l] := fun w => by rcases List.mem_cons.mp w with m | w; exact ej m; exact el (List.mem_singleton.mp w)
    refine wpAny_pyNext_enum_itemC D1 ge ⟨t1, pt⟩ nu ej ef fun x g1 tk y1 go st1 hT hsz hk => ?_
    have e1 : x = u := by
      have y1' : its.toArray[n]? = some x := y1
      have hu' : its.toArray[n]? = some u := by simpa using hu
      exact Option.some.inj (y1'.symm.trans hu')
    subst e1
    refine ⟨_, rfl, wpAny_letOwnedTupleGo_enum (s := { s with heap := g1, toks := tk + 1 }) go fun g2 he2 sb => ?_⟩
    have hT2 : g2.get? s.heap.objs.size = some { cls := .type "tuple", data := .seq #[.int n tk, x] } := (sb.2 _ (Nat.ne_of_gt le)).trans hT
    have far : ∀ c, c ∉ [e, j] → ∀ o, s.heap.get? c = some o → g2.get? c = some o := fun c w o m => (sb.2 c fun z => w (by simp [z])).trans (hk c o (fun z => w (by simp [z])) (fun z => w (by simp [z])) m)
    have fresh : ObjOk X.prog X.w (upd H s.heap.objs.size (.tup [.int (n : Nat), p])) g2 s.heap.objs.size (.tup [.int (n : Nat), p]) :=
      ⟨Nat.le_trans (by decide : 2 ≤ 100000) (by decide), [.int n tk, x], .cons ⟨_, rfl⟩ (.cons ru .nil), ⟨_, hT2, rfl, _, rfl⟩⟩
    have I2 : Inv X pins σ (upd H s.heap.objs.size (.tup [.int (n : Nat), p])) { s with heap := g2, toks := tk + 1 } :=
      I.turnedNew (t' := tk + 1) (ch := [e, j]) (fun c o w m => far c w o m) hf (Nat.le_refl _) fresh
    refine ⟨.ref s.heap.objs.size, _, I2, rfl, ⟨_, p, rfl, I.hok.fresh (Nat.le_refl _), rfl, fun m hm => by rw [I.tuple_inj hm sl]; exact ep⟩, ⟨⟨x, ?_⟩, st1.1.at fun o m => (sb.2 _ (Ne.symm ej)).trans m⟩, fun c w => ?_⟩
    · have q1 : ((n + 1 : Nat) : Int) = (n : Int) + 1 := by omega
      rw [q1]
      exact he2
    · have lt : c < s.heap.objs.size := by
        rcases two_of w with m | m <;> rw [m]
        · exact le
        · exact lj2
      rw [upd_ne (Nat.ne_of_lt lt)]
      exact (hf c w).1
  done := by
    intro X eP eW eK hc n pins s σ H E I hf st hg
    subst eP eW eK
    obtain ⟨⟨old, ge⟩, t1⟩ := st
    obtain ⟨ls, sl, nl⟩ := hg
    obtain ⟨its, rv, pt, _⟩ := I.tuple sl
    have m1 : its.toArray.size = n := by
      have := rv.length
      simp
      omega
    have D1 := Draws.tuple (prog := X.prog) (w := X.w) (A := X.A.in1) (I.ok.hd hc) j l lj its.toArray
    obtain ⟨f0, f1, f2, f3, f4, f5⟩ := hf j (by simp)
    refine wpAny_pyNext_enum_endD D1 ge (by rw [m1]; exact ⟨t1, pt⟩) fun g1 eb => ⟨rfl, ?_⟩
    exact I.turned (t' := s.toks) (fun b o w m => eb b o w m) f0 f1 f3 f4 f5
  self := fun A n s Q E st q => by
    obtain ⟨⟨old, ge⟩, _⟩ := st
    exact wpAny_pyIter_enum ge q
def iEnumA (K : PySem.W.Frag) (ta : TA) : TI := fun σ H R => ta σ H fun vs H1 => ∃ l ls, vs = [.ref l] ∧ ((SqL K H1 l ls ∧ R (Ite K l) H1) ∨ (SqT K H1 l ls ∧ R (IteT K l) H1))
theorem pi_enumA {X : Cx} {e : Expr} {ta : TA} {p pos tp : Pos} {es : List Expr} {n0 : Nat} (hg : Gl X "enumerate") (hm : X.mg "enumerate" = none) (ha : PA X [e] ta) (hs : starEach [e] X.env = [(false, eval e X.env)] := by rfl) :
    PI X (.Tuple es n0 tp) (.Call (.Name "enumerate" p) [e] [] pos) (iEnumA X.K ta) := by
  refine ⟨fun pins s σ H R I w => ?_⟩
  refine Call_ (ld_blt I hg hm boot_enumerate (PyProof.Rows.callWith_type1 (thn (ha.run pos pins s σ H _ I w) fun us s1 ⟨vs, H1, I1, r1, q1⟩ => ?_) hs rfl))
  obtain ⟨l, ls, rfl, q⟩ := q1
  cases r1 with
  | cons c1 r1 =>
    cases r1
    cases c1
    have fresh : ∀ c, c ∈ [s1.heap.objs.size + 1, s1.heap.objs.size] → FpOk X pins H1 c := fun c w => by
      have le : s1.heap.objs.size ≤ c := by
        rcases two_of w with m | m <;> rw [m] <;> first | exact Nat.le_refl _ | exact Nat.le_add_right _ _
      exact I1.fpOk le (I1.hok.fresh le)
    rcases q with ⟨sl, q⟩ | ⟨sl, q⟩
    · obtain ⟨its, rv, pl, _⟩ := I1.list sl
      refine call_enumerate_list pl.isList fun g he hit _ hk => wpAny_pyIter_enum he ?_
      have I2 : Inv X pins σ H1 { s1 with heap := g } := I1.kept (t' := s1.toks) hk
      exact ⟨s1.heap.objs.size + 1, [s1.heap.objs.size + 1, s1.heap.objs.size], _, _, H1, rfl, I2, turn_enum l (s1.heap.objs.size + 1) s1.heap.objs.size, ⟨⟨.none, he⟩, hit, Nat.succ_ne_self _⟩, fresh, q⟩
    · obtain ⟨its, rv, pt, _⟩ := I1.tuple sl
      obtain ⟨o1, f1, _⟩ := id pt
      have ll := Heap.lt_size f1
      refine call_enum1 (begins_tuple l its.toArray) pt fun g he b1 _ hk => wpAny_pyIter_enum he ?_
      have I2 : Inv X pins σ H1 { s1 with heap := g } := I1.kept (t' := s1.toks) hk
      exact ⟨s1.heap.objs.size + 1, [s1.heap.objs.size + 1, s1.heap.objs.size], _, _, H1, rfl, I2, turnEnT (Nat.ne_of_lt ll) (Nat.ne_of_gt (Nat.lt_succ_of_lt ll)) (Nat.succ_ne_self _), ⟨⟨.none, he⟩, ⟨_, b1, rfl, rfl⟩⟩, fresh, q⟩
theorem walk_enumT {K : PySem.W.Frag} {l : Addr} {xs : List V} : Walk (IteT K l) xs.length (fun H => SqT K H l xs) (YPair (fun i => some (.int (i : Nat))) (fun i => xs[i]?)) := by
  refine ⟨fun i _ hi q => ⟨xs, xs[i], q, by simp [hi]⟩, fun _ q => ⟨xs, q, rfl⟩, fun i H v H2 _ q y => ?_⟩
  obtain ⟨T, x, e1, e2, e3, e4⟩ := y
  exact ⟨T, .int (i : Nat), x, e1, e2, e3, rfl, e4 xs q⟩
end Bm
set_option maxHeartbeats 400000
namespace Bm
open PySem PySem.Spec PyProof.Rows L2
/-! what a pattern gives -/
def PEv (t : TPt) (v : V) (H : Hp) (r : Option (List (Nat × V))) : Prop := ∀ k : PK, k r H → t v H k
def PsEv (t : List V → Hp → PK → Prop) (vs : List V) (H : Hp) (r : Option (List (Nat × V))) : Prop := ∀ k : PK, k r H → t vs H k
section
variable {K : PySem.W.Frag} {H : Hp} {v : V} {t : TPt} {u : List V → Hp → PK → Prop} {vs : List V} {a : Addr} {n : Nat} {D : Ends} {σ : L2.St} {b : TS} {cs : TCs}
theorem pev_yes {c : V} (h : scal c c = true) : PEv (tPv c) c H (some []) := fun k q => ⟨h, by rw [if_pos rfl]; exact q⟩
theorem pev_no {c : V} (h : scal v c = true) (hn : v ≠ c) : PEv (tPv c) v H none := fun k q => ⟨h, by rw [if_neg hn]; exact q⟩
theorem pev_str {x c : Str} (hn : x ≠ c) : PEv (tPv (.str c)) (.str x) H none := pev_no rfl fun z => hn (V.str.inj z)
theorem pev_name {i : Nat} : PEv (tPn i) v H (some [(i, v)]) := fun k q => q
theorem pev_wild : PEv tPw v H (some []) := fun k q => q
theorem psev_nil : PsEv tPnil [] H (some []) := fun k q => ⟨rfl, q⟩
theorem psev_cons {x y : List (Nat × V)} (h1 : PEv t v H (some x)) (h2 : PsEv u vs H (some y)) : PsEv (tPcons t u) (v :: vs) H (some (x ++ y)) := fun k q => ⟨v, vs, rfl, h1 _ (h2 _ q)⟩
theorem psev_no (h1 : PEv t v H none) : PsEv (tPcons t u) (v :: vs) H none := fun k q => ⟨v, vs, rfl, h1 _ q⟩
theorem psev_skip {x : List (Nat × V)} (h1 : PEv t v H (some x)) (h2 : PsEv u vs H none) : PsEv (tPcons t u) (v :: vs) H none := fun k q => ⟨v, vs, rfl, h1 _ (h2 _ q)⟩
theorem pev_seq {r : Option (List (Nat × V))} (hs : SqT K H a vs) (hl : vs.length = n) (h : PsEv u vs H r) : PEv (tPseq K n u) (.ref a) H r := fun k q => ⟨a, vs, rfl, hs, by rw [if_pos hl]; exact h k q⟩
theorem pev_len (hs : SqT K H a vs) (hl : vs.length ≠ n) : PEv (tPseq K n u) (.ref a) H none := fun k q => ⟨a, vs, rfl, hs, by rw [if_neg hl]; exact q⟩
theorem cs_yes {x : List (Nat × V)} (h : PEv t v H (some x)) (q : b D (setAll x σ) H) : tCs t b cs v D σ H := h _ q
theorem cs_no (h : PEv t v H none) (q : cs v D σ H) : tCs t b cs v D σ H := h _ q
theorem pev_first {r : Option (List (Nat × V))} {x : List (Nat × V)} (h : PEv t v H (some x)) (t2 : TPt) : PEv (tPfirst t t2) v H (some x) := fun k q => h _ q
theorem pev_next {t2 : TPt} {r : Option (List (Nat × V))} (h : PEv t v H none) (h2 : PEv t2 v H r) : PEv (tPfirst t t2) v H r := fun k q => h _ (h2 k q)
theorem pev_or {x : List (Nat × V)} (h : PEv t v H (some x)) : PEv (tPor t) v H (some []) := fun k q => h _ q
theorem pev_orN (h : PEv t v H none) : PEv (tPor t) v H none := fun k q => h _ q
end
end Bm
set_option maxHeartbeats 400000
namespace Bm
open PySem PySem.Spec PyProof.Rows L2
section
variable {P : Program} {w : World} {K : PySem.W.Frag} {mg : Str → Option Value} {base : Heap} {f : Addr} {fd : FuncData} {dvs : List V}
abbrev FnP (K : PySem.W.Frag) (x : Str) (st : Stmt) (dvs : List V) (f : Addr) (fd : FuncData) : Prop := FunD K x x (defArgs st) (defBody st) (defScope st) dvs [] f fd
/-! fields -/
theorem or3 {f a b : Int} (hf : 0 ≤ f ∧ f < 16) (ha : 0 ≤ a ∧ a < 8) (hb : 0 ≤ b ∧ b < 8) : Builtin.bitOr (Builtin.bitOr (f * 2 ^ 12) (a * 2 ^ 9)) (b * 2 ^ 6) = f * 4096 + a * 512 + b * 64 := by
  have e0 : f * 2 ^ 12 = (f * 8) * 512 := by omega
  have e1 : Builtin.bitOr (f * 2 ^ 12) (a * 2 ^ 9) = f * 4096 + a * 512 := by
    have e := or_side (x := f) (y := a * 2 ^ 9) 12 (by omega) (by omega) (by omega)
    rw [e]
    omega
  rw [e1]
  have e2 : f * 4096 + a * 512 = (f * 8 + a) * 512 := by omega
  rw [e2, or9 (by omega) (by omega) (by omega)]
  omega
def spFields : Sp := fun vs H Q _ => ∃ f a b : Int, vs = [.int f, .int a, .int b] ∧ (0 ≤ f ∧ f < 16) ∧ (0 ≤ a ∧ a < 8) ∧ (0 ≤ b ∧ b < 8) ∧ Q (.int (f * 4096 + a * 512 + b * 64)) H
theorem sc_fields : FnScope ["form", "first", "second"] ["form", "first", "second"] (defScope s_fields) := ⟨rfl, rfl, rfl, by decide +kernel, rfl, by decide +kernel, by decide +kernel⟩
theorem cpow {i j : Int} (h : 0 ≤ i ∧ i < 65536) (hj : 0 ≤ j ∧ j ≤ 64) : 0 ≤ j ∧ j ≤ 1000000 ∧ i.natAbs < 2 ^ 64 := ⟨hj.1, by omega, by omega⟩
theorem ok_fields (F : FnP K "fields" s_fields dvs f fd) : FnOk P w K mg base CX0 1 f fd ["form", "first", "second"] spFields := by
  refine F.ok sc_fields (fun vs H Q E h => ?_) (fun cdv A outer s H vs Q E hr h => ?_)
  · obtain ⟨f, a, b, rfl, _⟩ := h
    rfl
  · obtain ⟨f, a, b, rfl, hf, ha, hb, q⟩ := h
    refine ⟨_, PSs.nox (pss_one (ps_ret (pe_op op_or (pe_op op_or (pe_op op_shl (pv 0) pe_int) (pe_op op_shl (pv 1) pe_int)) (pe_op op_shl (pv 2) pe_int)))), ?_⟩
    refine ⟨_, rfl, _, _, rfl, rfl, cpow (by omega) (by decide), _, rfl, _, _, rfl, rfl, cpow (by omega) (by decide), _, _, rfl, rfl, _, rfl, _, _, rfl, rfl, cpow (by omega) (by decide), _, _, rfl, rfl, ?_⟩
    have e := or3 hf ha hb
    show Q (.int (Builtin.bitOr (Builtin.bitOr (f * 2 ^ 12) (a * 2 ^ 9)) (b * 2 ^ 6))) H
    rw [e]
    exact q
abbrev KnF (P : Program) (w : World) (K : PySem.W.Frag) (mg : Str → Option Value) (base : Heap) (dvs : List V) : Prop := Kn P w K mg base CX0 1 "fields" ["form", "first", "second"] dvs spFields
/-! is_reached -/
def spReached : Sp := fun vs H Q _ => ∃ p g : Int, vs = [.int p, .int g] ∧ Q (.bl (decide (near g p))) H
abbrev N_is_reached : List Str := ["place", "goal"]
theorem sc_is_reached : FnScope ["place", "goal"] ["place", "goal"] (defScope s_is_reached) := ⟨rfl, rfl, rfl, by decide +kernel, rfl, by decide +kernel, by decide +kernel⟩
theorem ok_reached (F : FnP K "is_reached" s_is_reached dvs f fd) : FnOk P w K mg base CX0 1 f fd ["place", "goal"] spReached := by
  refine F.ok sc_is_reached (fun vs H Q E h => ?_) (fun cdv A outer s H vs Q E hr h => ?_)
  · obtain ⟨p, g, rfl, _⟩ := h
    rfl
  · obtain ⟨p, g, rfl, q⟩ := h
    refine ⟨_, PSs.nox (pss_one (ps_ret (pe_chain op_le op_le (pe_un un_neg pe_int) (pe_op op_sub (pe_op op_sub (pv 1) (pv 0)) pe_int) pe_int))), ?_⟩
    refine ⟨_, rfl, _, rfl, _, rfl, _, _, rfl, rfl, _, _, rfl, rfl, _, _, rfl, rfl, _, rfl, ?_⟩
    by_cases c1 : -16 ≤ g - p - 1
    · rw [decide_eq_true c1]
      refine iteT ⟨_, _, rfl, rfl, ?_⟩
      have e : decide (near g p) = decide (g - p - 1 ≤ 15) := decide_eq_decide.mpr ⟨fun h => h.2, fun h => ⟨c1, h⟩⟩
      rw [e] at q
      exact q
    · rw [decide_eq_false c1]
      have e : decide (near g p) = false := decide_eq_false fun h => c1 h.1
      rw [e] at q
      exact iteF q
abbrev KnRe (P : Program) (w : World) (K : PySem.W.Frag) (mg : Str → Option Value) (base : Heap) : Prop := Kn P w K mg base CX0 1 "is_reached" ["place", "goal"] [] spReached
/-! going_words -/
def spGoing : Sp := fun vs H Q _ => ∃ (nf k g : Int) (far : Bool) (p : Int), vs = [.int nf, .int k, .int g, .bl far, .int p] ∧ (0 ≤ nf ∧ nf < 15) ∧ (0 ≤ k ∧ k < 8) ∧
  (far = true → ∀ q H', Same H H' → H' q = some (.tup [.int ((nf + 1) * 4096 + k * 512), .int g]) → Q (.ref q) H') ∧
  (far = false → near g p → ∀ q H', Same H H' → H' q = some (.tup [.int (nf * 4096 + k * 512 + (g - p - 1) % 32)]) → Q (.ref q) H') ∧ (far = false → ¬ near g p → Q .non H)
abbrev N_going_words : List Str := ["near_form", "when", "goal", "far", "place"]
theorem sc_going_words : FnScope ["near_form", "when", "goal", "far", "place"] ["near_form", "when", "goal", "far", "place"] (defScope s_going_words) := ⟨rfl, rfl, rfl, by decide +kernel, rfl, by decide +kernel, by decide +kernel⟩
theorem ok_going (F : FnP K "going_words" s_going_words dvs f fd) (k_fields_2 : KnF P w K mg base [.int 0]) (k_is_reached : KnRe P w K mg base) : FnOk P w K mg base CX0 2 f fd ["near_form", "when", "goal", "far", "place"] spGoing := by
  refine F.ok sc_going_words (fun vs H Q E h => ?_) (fun cdv A outer s H vs Q E hr h => ?_)
  · obtain ⟨nf, k, g, far, p, rfl, _⟩ := h
    rfl
  · obtain ⟨nf, k, g, far, p, rfl, hf, hk, q1, q2, q3⟩ := h
    refine ⟨_, PSs.nox (pss_cons (ps_if (pt_val (pv 3)) (pss_one (ps_ret (pe_tup (pa_cons (pk k_fields_2 hr (by decide) rfl pass0 (pa_cons (pe_op op_add (pv 0) pe_int) (pa_cons (pv 1) pa_nil))) (pa_cons (pv 2) pa_nil))))) pss_nil)
      (pss_cons (ps_if (pt_not (pt_val (pk k_is_reached hr (by decide) rfl pass0 (pa_cons (pv 4) (pa_cons (pv 2) pa_nil))))) (pss_one (ps_ret pe_non)) pss_nil)
      (pss_one (ps_ret (pe_tup (pa_cons (pe_op op_or (pk k_fields_2 hr (by decide) rfl pass0 (pa_cons (pv 0) (pa_cons (pv 1) pa_nil))) (pe_op op_and (pe_op op_sub (pe_op op_sub (pv 2) (pv 4)) pe_int) pe_int)) pa_nil)))))), ?_⟩
    refine ⟨_, rfl, _, rfl, ?_⟩
    cases far with
    | true =>
      refine iteT ?_
      refine ⟨_, rfl, _, _, rfl, rfl, _, rfl, nf + 1, k, 0, rfl, by omega, by omega, by omega, _, rfl, line5 (by simp), laid fun q H1 _ e h1 => q1 rfl q H1 e ?_⟩
      rw [h1]
      have e : (nf + 1) * 4096 + k * 512 + 0 * 64 = (nf + 1) * 4096 + k * 512 := by omega
      rw [e]
    | false =>
      refine iteF ⟨_, rfl, _, rfl, p, g, rfl, _, rfl, ?_⟩
      by_cases c : near g p
      · rw [decide_eq_true c]
        refine iteF ?_
        refine ⟨_, rfl, _, rfl, nf, k, 0, rfl, by omega, by omega, by omega, _, rfl, _, rfl, _, _, rfl, rfl, _, _, rfl, rfl, _, _, rfl, rfl, _, _, rfl, rfl, line5 (by simp), laid fun q H1 _ e h1 => q2 rfl c q H1 e ?_⟩
        have e4 : Builtin.bitOr (nf * 4096 + k * 512 + 0 * 64) (Builtin.bitAnd (g - p - 1) 31) = nf * 4096 + k * 512 + (g - p - 1) % 32 := by
          have e2 : nf * 4096 + k * 512 + 0 * 64 = (nf * 64 + k * 8) * 64 := by omega
          rw [bitAnd_m5, e2, or6 (by omega) (by omega) (by omega)]
          omega
        exact h1.trans (congrArg (fun z => some (HO.tup [V.int z])) e4)
      · rw [decide_eq_false c]
        exact iteT (q3 rfl c)
end
end Bm
set_option maxHeartbeats 800000
namespace Bm
open PySem PySem.Spec PyProof.Rows L2
section
variable {P : Program} {w : World} {K : PySem.W.Frag} {mg : Str → Option Value} {base : Heap} {f : Addr} {fd : FuncData} {dvs : List V} {odd : List Str}
/-! only_word -/
def spOnly (K : PySem.W.Frag) : Sp := fun vs H Q _ => ∃ (a : Addr) (d : De), vs = [.ref a] ∧ SqT K H a d.vals ∧ d.ok ∧ d.goes = false ∧ Q (.int d.word) H
theorem sc_only_word : FnScope ["deed", "name", "a", "d", "n", "b"] ["deed"] (defScope s_only_word) := ⟨rfl, rfl, rfl, by decide +kernel, rfl, by decide +kernel, by decide +kernel⟩
theorem ok_only (F : FnP K "only_word" s_only_word dvs f fd) (C : Con w K mg odd) (k_fields : KnF P w K mg base []) (k_fields_2 : KnF P w K mg base [.int 0]) : FnOk P w K mg base CX0 2 f fd ["deed"] (spOnly K) := by
  refine F.ok sc_only_word (fun vs H Q E h => ?_) (fun cdv A outer s H vs Q E hr h => ?_)
  · obtain ⟨a, d, rfl, _⟩ := h
    rfl
  · obtain ⟨a, d, rfl, hS, hok, hgo, q⟩ := h
    have g_SINGLES := C.g_SINGLES
    have g_SUMS := C.g_SUMS
    refine ⟨_, PSs.nox (pss_one (ps_match (pv 0) (pcs_cons sc_only_word.nd (pp_seq rfl (pps_cons (pp_name (i := 1) rfl (Or.inl rfl)) pps_nil)) (pss_one (ps_ret (pk k_fields_2 hr (by decide) rfl pass0 (pa_cons pe_int (pa_cons (pe_bm PySem.F.plainAttrs_tuple PySem.F.slot_tuple_index PySem.F.type_tuple_index mt_tup_index (pe_glob (v := .ref (He.ga K "SINGLES")) rfl g_SINGLES rfl) (pa_cons (pv 1) pa_nil)) pa_nil)))))
      (pcs_cons sc_only_word.nd (pp_seq rfl (pps_cons (pp_name (i := 1) rfl (Or.inl rfl)) (pps_cons (pp_name (i := 2) rfl (Or.inl rfl)) pps_nil))) (pss_one (ps_ret (pk k_fields hr (by decide) rfl pass0 (pa_cons pe_int (pa_cons (pe_bm PySem.F.plainAttrs_tuple PySem.F.slot_tuple_index PySem.F.type_tuple_index mt_tup_index (pe_glob (v := .ref (He.ga K "SINGLES")) rfl g_SINGLES rfl) (pa_cons (pv 1) pa_nil)) (pa_cons (pv 2) pa_nil))))))
      (pcs_cons sc_only_word.nd (pp_seq rfl (pps_cons (pp_val pe_str) (pps_cons (pp_name (i := 3) rfl (Or.inl rfl)) (pps_cons (pp_name (i := 4) rfl (Or.inl rfl)) pps_nil)))) (pss_one (ps_ret (pe_op op_or (pk k_fields_2 hr (by decide) rfl pass0 (pa_cons pe_int (pa_cons (pv 3) pa_nil))) (pv 4))))
      (pcs_cons sc_only_word.nd (pp_seq rfl (pps_cons (pp_val pe_str) (pps_cons (pp_name (i := 3) rfl (Or.inl rfl)) (pps_cons (pp_name (i := 4) rfl (Or.inl rfl)) pps_nil)))) (pss_one (ps_ret (pe_op op_or (pk k_fields_2 hr (by decide) rfl pass0 (pa_cons pe_int (pa_cons (pv 3) pa_nil))) (pv 4))))
      (pcs_cons sc_only_word.nd (pp_seq rfl (pps_cons (pp_val pe_str) (pps_cons (pp_name (i := 3) rfl (Or.inl rfl)) (pps_cons (pp_name (i := 2) rfl (Or.inl rfl)) (pps_cons (pp_name (i := 4) rfl (Or.inl rfl)) pps_nil))))) (pss_one (ps_ret (pe_op op_or (pk k_fields hr (by decide) rfl pass0 (pa_cons pe_int (pa_cons (pv 3) (pa_cons (pv 2) pa_nil)))) (pe_op op_and (pv 4) pe_int))))
      (pcs_cons sc_only_word.nd (pp_seq rfl (pps_cons (pp_val pe_str) (pps_cons (pp_name (i := 3) rfl (Or.inl rfl)) (pps_cons (pp_name (i := 2) rfl (Or.inl rfl)) (pps_cons (pp_name (i := 4) rfl (Or.inl rfl)) pps_nil))))) (pss_one (ps_ret (pe_op op_or (pk k_fields hr (by decide) rfl pass0 (pa_cons pe_int (pa_cons (pv 3) (pa_cons (pv 2) pa_nil)))) (pv 4))))
      (pcs_cons sc_only_word.nd (pp_seq rfl (pps_cons (pp_val pe_str) (pps_cons (pp_name (i := 3) rfl (Or.inl rfl)) (pps_cons (pp_name (i := 2) rfl (Or.inl rfl)) (pps_cons (pp_name (i := 4) rfl (Or.inl rfl)) pps_nil))))) (pss_one (ps_ret (pe_op op_or (pk k_fields hr (by decide) rfl pass0 (pa_cons pe_int (pa_cons (pv 3) (pa_cons (pv 2) pa_nil)))) (pv 4))))
      (pcs_cons sc_only_word.nd (pp_seq rfl (pps_cons (pp_name (i := 1) rfl (Or.inl rfl)) (pps_cons (pp_name (i := 3) rfl (Or.inl rfl)) (pps_cons (pp_name (i := 2) rfl (Or.inl rfl)) (pps_cons (pp_name (i := 5) rfl (Or.inl rfl)) pps_nil))))) (pss_one (ps_ret (pe_op op_or (pe_op op_or (pk k_fields hr (by decide) rfl pass0 (pa_cons pe_int (pa_cons (pv 3) (pa_cons (pv 2) pa_nil)))) (pe_op op_shl (pv 5) pe_int)) (pe_bm PySem.F.plainAttrs_tuple PySem.F.slot_tuple_index PySem.F.type_tuple_index mt_tup_index (pe_glob (v := .ref (He.ga K "SUMS")) rfl g_SUMS rfl) (pa_cons (pv 1) pa_nil)))))
      pcs_nil)))))))))), ?_⟩
    refine ⟨_, rfl, ?_⟩
    have iq : ∀ z : Int, z = d.word → Q (.int z) H := fun z e => by rw [e]; exact q
    cases d with
    | sgl k =>
      have hk : k < 7 := Nat.lt_of_lt_of_le hok (by decide)
      have hok : k < 3 := hok
      refine cs_yes (pev_seq hS rfl (psev_cons pev_name psev_nil)) ?_
      refine ⟨(C.sg H).2, _, rfl, _, SG, nm SG k, k, rfl, rfl, (C.sg H).1, (sg_at k hk).1, (sg_at k hk).2, 0, k, 0, rfl, by omega, by omega, by omega, iq _ ?_⟩
      show (0 : Int) * 4096 + k * 512 + 0 * 64 = k * 512
      omega
    | reg k a =>
      obtain ⟨h1, h2, h3⟩ := hok
      have h3 : 0 ≤ a ∧ a ≤ 7 := h3
      refine cs_no (pev_len hS (Nat.ne_of_beq_eq_false rfl)) (cs_yes (pev_seq hS rfl (psev_cons pev_name (psev_cons pev_name psev_nil))) ?_)
      refine ⟨(C.sg H).2, _, rfl, _, SG, nm SG k, k, rfl, rfl, (C.sg H).1, (sg_at k h2).1, (sg_at k h2).2, _, rfl, 0, k, a, rfl, by omega, by omega, by omega, iq _ ?_⟩
      show (0 : Int) * 4096 + k * 512 + a * 64 = k * 512 + a * 64
      omega
    | sum k d a b =>
      obtain ⟨h1, h2, h3, h4⟩ := hok
      have h2 : 0 ≤ d ∧ d ≤ 7 := h2
      have h3 : 0 ≤ a ∧ a ≤ 7 := h3
      have h4 : 0 ≤ b ∧ b ≤ 7 := h4
      obtain ⟨n1, n2, n3, _⟩ := sm_ne k h1
      refine cs_no (pev_len hS (Nat.ne_of_beq_eq_false rfl)) (cs_no (pev_len hS (Nat.ne_of_beq_eq_false rfl)) (cs_no (pev_len hS (Nat.ne_of_beq_eq_false rfl)) (cs_no (pev_len hS (Nat.ne_of_beq_eq_false rfl)) (cs_no (pev_seq hS rfl (psev_no (pev_str n1))) (cs_no (pev_seq hS rfl (psev_no (pev_str n2))) (cs_no (pev_seq hS rfl (psev_no (pev_str n3)))
        (cs_yes (pev_seq hS rfl (psev_cons pev_name (psev_cons pev_name (psev_cons pev_name (psev_cons pev_name psev_nil))))) ?_)))))))
      refine ⟨_, rfl, _, rfl, 1, d, a, rfl, by omega, by omega, by omega, _, rfl, _, _, rfl, rfl, cpow (by omega) (by decide), _, _, rfl, rfl, (C.sm H).2, _, rfl, _, SM, nm SM k, k, rfl, rfl, (C.sm H).1, (sm_at k h1).1, (sm_at k h1).2, _, _, rfl, rfl, iq _ ?_⟩
      show Builtin.bitOr (Builtin.bitOr (1 * 4096 + d * 512 + a * 64) (b * 2 ^ 3)) (k : Int) = 4096 + d * 512 + a * 64 + b * 8 + k
      have e1 : (1 : Int) * 4096 + d * 512 + a * 64 = (64 + d * 8 + a) * 64 := by omega
      have e2 : (64 + d * 8 + a) * 64 + b * 2 ^ 3 = (512 + d * 64 + a * 8 + b) * 8 := by omega
      rw [e1, or6 (by omega) (by omega) (by omega), e2, or3' (by omega) (by omega) (by omega)]
      omega
    | plus d a n =>
      obtain ⟨h2, h3, h4, h5⟩ := hok
      have h2 : 0 ≤ d ∧ d ≤ 7 := h2
      have h3 : 0 ≤ a ∧ a ≤ 7 := h3
      refine cs_no (pev_len hS (Nat.ne_of_beq_eq_false rfl)) (cs_no (pev_len hS (Nat.ne_of_beq_eq_false rfl)) (cs_no (pev_len hS (Nat.ne_of_beq_eq_false rfl)) (cs_no (pev_len hS (Nat.ne_of_beq_eq_false rfl)) (cs_yes (pev_seq hS rfl (psev_cons (pev_yes rfl) (psev_cons pev_name (psev_cons pev_name (psev_cons pev_name psev_nil))))) ?_))))
      refine ⟨_, rfl, _, rfl, 2, d, a, rfl, by omega, by omega, by omega, _, rfl, _, _, rfl, rfl, _, _, rfl, rfl, iq _ ?_⟩
      show Builtin.bitOr (2 * 4096 + d * 512 + a * 64) (Builtin.bitAnd n 63) = 8192 + d * 512 + a * 64 + n % 64
      have e1 : (2 : Int) * 4096 + d * 512 + a * 64 = (128 + d * 8 + a) * 64 := by omega
      rw [bitAnd_m6, e1, or6 (by omega) (by omega) (by omega)]
      omega
    | set d n =>
      obtain ⟨h2, h3, h4⟩ := hok
      have h2 : 0 ≤ d ∧ d ≤ 7 := h2
      refine cs_no (pev_len hS (Nat.ne_of_beq_eq_false rfl)) (cs_no (pev_len hS (Nat.ne_of_beq_eq_false rfl)) (cs_yes (pev_seq hS rfl (psev_cons (pev_yes rfl) (psev_cons pev_name (psev_cons pev_name psev_nil)))) ?_))
      refine ⟨_, rfl, 3, d, 0, rfl, by omega, by omega, by omega, _, rfl, _, _, rfl, rfl, iq _ ?_⟩
      show Builtin.bitOr (3 * 4096 + d * 512 + 0 * 64) n = 12288 + d * 512 + n
      have e1 : (3 : Int) * 4096 + d * 512 + 0 * 64 = (24 + d) * 512 := by omega
      rw [e1, or9 (by omega) (by omega) (by omega)]
      omega
    | high d n =>
      obtain ⟨h2, h3, h4⟩ := hok
      have h2 : 0 ≤ d ∧ d ≤ 7 := h2
      refine cs_no (pev_len hS (Nat.ne_of_beq_eq_false rfl)) (cs_no (pev_len hS (Nat.ne_of_beq_eq_false rfl)) (cs_no (pev_seq hS rfl (psev_no (pev_str (by decide +kernel)))) (cs_yes (pev_seq hS rfl (psev_cons (pev_yes rfl) (psev_cons pev_name (psev_cons pev_name psev_nil)))) ?_)))
      refine ⟨_, rfl, 4, d, 0, rfl, by omega, by omega, by omega, _, rfl, _, _, rfl, rfl, iq _ ?_⟩
      show Builtin.bitOr (4 * 4096 + d * 512 + 0 * 64) n = 16384 + d * 512 + n
      have e1 : (4 : Int) * 4096 + d * 512 + 0 * 64 = (32 + d) * 512 := by omega
      rw [e1, or9 (by omega) (by omega) (by omega)]
      omega
    | load d a n =>
      obtain ⟨h2, h3, h4, h5⟩ := hok
      have h2 : 0 ≤ d ∧ d ≤ 7 := h2
      have h3 : 0 ≤ a ∧ a ≤ 7 := h3
      refine cs_no (pev_len hS (Nat.ne_of_beq_eq_false rfl)) (cs_no (pev_len hS (Nat.ne_of_beq_eq_false rfl)) (cs_no (pev_len hS (Nat.ne_of_beq_eq_false rfl)) (cs_no (pev_len hS (Nat.ne_of_beq_eq_false rfl)) (cs_no (pev_seq hS rfl (psev_no (pev_str (by decide +kernel))))
        (cs_yes (pev_seq hS rfl (psev_cons (pev_yes rfl) (psev_cons pev_name (psev_cons pev_name (psev_cons pev_name psev_nil))))) ?_)))))
      refine ⟨_, rfl, _, rfl, 5, d, a, rfl, by omega, by omega, by omega, _, rfl, _, _, rfl, rfl, iq _ ?_⟩
      show Builtin.bitOr (5 * 4096 + d * 512 + a * 64) n = 20480 + d * 512 + a * 64 + n
      have e1 : (5 : Int) * 4096 + d * 512 + a * 64 = (320 + d * 8 + a) * 64 := by omega
      rw [e1, or6 (by omega) (by omega) (by omega)]
      omega
    | store d a n =>
      obtain ⟨h2, h3, h4, h5⟩ := hok
      have h2 : 0 ≤ d ∧ d ≤ 7 := h2
      have h3 : 0 ≤ a ∧ a ≤ 7 := h3
      refine cs_no (pev_len hS (Nat.ne_of_beq_eq_false rfl)) (cs_no (pev_len hS (Nat.ne_of_beq_eq_false rfl)) (cs_no (pev_len hS (Nat.ne_of_beq_eq_false rfl)) (cs_no (pev_len hS (Nat.ne_of_beq_eq_false rfl)) (cs_no (pev_seq hS rfl (psev_no (pev_str (by decide +kernel)))) (cs_no (pev_seq hS rfl (psev_no (pev_str (by decide +kernel))))
        (cs_yes (pev_seq hS rfl (psev_cons (pev_yes rfl) (psev_cons pev_name (psev_cons pev_name (psev_cons pev_name psev_nil))))) ?_))))))
      refine ⟨_, rfl, _, rfl, 6, d, a, rfl, by omega, by omega, by omega, _, rfl, _, _, rfl, rfl, iq _ ?_⟩
      show Builtin.bitOr (6 * 4096 + d * 512 + a * 64) n = 24576 + d * 512 + a * 64 + n
      have e1 : (6 : Int) * 4096 + d * 512 + a * 64 = (384 + d * 8 + a) * 64 := by omega
      rw [e1, or6 (by omega) (by omega) (by omega)]
      omega
    | jump _ _ _ => cases hgo
    | call _ _ => cases hgo
abbrev KnO (P : Program) (w : World) (K : PySem.W.Frag) (mg : Str → Option Value) (base : Heap) : Prop := Kn P w K mg base CX0 2 "only_word" ["deed"] [] (spOnly K)
/-! words_of -/
def vInts (l : List Int) : List V := l.map V.int
def spWordsOf (K : PySem.W.Frag) : Sp := fun vs H Q _ => ∃ (a : Addr) (d : De) (p : Int), vs = [.ref a, .int p] ∧ SqT K H a d.vals ∧ d.ok ∧
  (d.reached p → ∀ q H', Same H H' → H' q = some (.tup (vInts (d.words p))) → Q (.ref q) H') ∧ (¬ d.reached p → Q .non H)
abbrev KnG (P : Program) (w : World) (K : PySem.W.Frag) (mg : Str → Option Value) (base : Heap) : Prop := Kn P w K mg base CX0 2 "going_words" ["near_form", "when", "goal", "far", "place"] [] spGoing
abbrev N_words_of : List Str := ["deed", "place", "when", "goal", "far"]
theorem sc_words_of : FnScope ["deed", "place", "when", "goal", "far"] ["deed", "place"] (defScope s_words_of) := ⟨rfl, rfl, rfl, by decide +kernel, rfl, by decide +kernel, by decide +kernel⟩
theorem ok_words_of (F : FnP K "words_of" s_words_of dvs f fd) (C : Con w K mg odd) (k_going_words : KnG P w K mg base) (k_only_word : KnO P w K mg base) : FnOk P w K mg base CX0 3 f fd ["deed", "place"] (spWordsOf K) := by
  refine F.ok sc_words_of (fun vs H Q E h => ?_) (fun cdv A outer s H vs Q E hr h => ?_)
  · obtain ⟨a, d, p, rfl, _⟩ := h
    rfl
  · obtain ⟨a, d, p, rfl, hS, hok, q1, q2⟩ := h
    have g_TIMES := C.g_TIMES
    refine ⟨_, PSs.nox (pss_one (ps_match (pv 0) (pcs_cons sc_words_of.nd (pp_seq rfl (pps_cons (pp_val pe_str) (pps_cons (pp_name (i := 2) rfl (Or.inl rfl)) (pps_cons (pp_name (i := 3) rfl (Or.inl rfl)) (pps_cons (pp_name (i := 4) rfl (Or.inl rfl)) pps_nil))))) (pss_one (ps_ret (pk k_going_words hr (by decide) rfl pass0 (pa_cons pe_int (pa_cons (pe_bm PySem.F.plainAttrs_tuple PySem.F.slot_tuple_index PySem.F.type_tuple_index mt_tup_index (pe_glob (v := .ref (He.ga K "TIMES")) rfl g_TIMES rfl) (pa_cons (pv 2) pa_nil)) (pa_cons (pv 3) (pa_cons (pv 4) (pa_cons (pv 1) pa_nil))))))))
      (pcs_cons sc_words_of.nd (pp_seq rfl (pps_cons (pp_val pe_str) (pps_cons (pp_name (i := 3) rfl (Or.inl rfl)) (pps_cons (pp_name (i := 4) rfl (Or.inl rfl)) pps_nil)))) (pss_one (ps_ret (pk k_going_words hr (by decide) rfl pass0 (pa_cons pe_int (pa_cons pe_int (pa_cons (pv 3) (pa_cons (pv 4) (pa_cons (pv 1) pa_nil))))))))
      (pcs_cons sc_words_of.nd pp_wild (pss_one (ps_ret (pe_tup (pa_cons (pk k_only_word hr (by decide) rfl pass0 (pa_cons (pv 0) pa_nil)) pa_nil))))
      pcs_nil))))), ?_⟩
    refine ⟨_, rfl, ?_⟩
    have plain : d.goes = false → PEv (tPseq K 4 (tPcons (tPv (.str "jump")) (tPcons (tPn 2) (tPcons (tPn 3) (tPcons (tPn 4) tPnil))))) (.ref a) H none ∧ PEv (tPseq K 3 (tPcons (tPv (.str "call")) (tPcons (tPn 3) (tPcons (tPn 4) tPnil)))) (.ref a) H none := fun hg => by
      cases d with
      | sgl k => exact ⟨pev_len hS (Nat.ne_of_beq_eq_false rfl), pev_len hS (Nat.ne_of_beq_eq_false rfl)⟩
      | reg k a => exact ⟨pev_len hS (Nat.ne_of_beq_eq_false rfl), pev_len hS (Nat.ne_of_beq_eq_false rfl)⟩
      | sum k d a b => exact ⟨pev_seq hS rfl (psev_no (pev_str (sm_ne k hok.1).2.2.2.1)), pev_len hS (Nat.ne_of_beq_eq_false rfl)⟩
      | plus d a n => exact ⟨pev_seq hS rfl (psev_no (pev_str (by decide +kernel))), pev_len hS (Nat.ne_of_beq_eq_false rfl)⟩
      | set d n => exact ⟨pev_len hS (Nat.ne_of_beq_eq_false rfl), pev_seq hS rfl (psev_no (pev_str (by decide +kernel)))⟩
      | high d n => exact ⟨pev_len hS (Nat.ne_of_beq_eq_false rfl), pev_seq hS rfl (psev_no (pev_str (by decide +kernel)))⟩
      | load d a n => exact ⟨pev_seq hS rfl (psev_no (pev_str (by decide +kernel))), pev_len hS (Nat.ne_of_beq_eq_false rfl)⟩
      | store d a n => exact ⟨pev_seq hS rfl (psev_no (pev_str (by decide +kernel))), pev_len hS (Nat.ne_of_beq_eq_false rfl)⟩
      | jump _ _ _ => cases hg
      | call _ _ => cases hg
    by_cases hg : d.goes = false
    · obtain ⟨n1, n2⟩ := plain hg
      refine cs_no n1 (cs_no n2 (cs_yes pev_wild ?_))
      refine ⟨_, rfl, a, d, rfl, hS, hok, hg, line5 (by simp), laid fun q H1 _ e h1 => q1 ?_ q H1 e ?_⟩
      · cases d <;> first | trivial | cases hg
      · rw [h1, words_word hg]
        rfl
    cases d with
    | jump k g far =>
      obtain ⟨h1, h2, h3⟩ := hok
      refine cs_yes (pev_seq hS rfl (psev_cons (pev_yes rfl) (psev_cons pev_name (psev_cons pev_name (psev_cons pev_name psev_nil))))) ?_
      refine ⟨(C.tm H).2, _, rfl, _, TM, nm TM k, k, rfl, rfl, (C.tm H).1, (tm_at k h1).1, (tm_at k h1).2, _, rfl, _, rfl, _, rfl, 7, k, g, far, p, rfl, by omega, by omega, fun e q H1 s1 z => ?_, fun e n q H1 s1 z => ?_, fun e n => ?_⟩
      · subst e
        exact q1 trivial q H1 s1 (z.trans (congrArg (fun y => some (HO.tup [V.int y, V.int g])) (by omega)))
      · subst e
        exact q1 n q H1 s1 (z.trans (congrArg (fun y => some (HO.tup [V.int y])) (by omega)))
      · subst e
        exact q2 n
    | call g far =>
      refine cs_no (pev_len hS (Nat.ne_of_beq_eq_false rfl)) (cs_yes (pev_seq hS rfl (psev_cons (pev_yes rfl) (psev_cons pev_name (psev_cons pev_name psev_nil)))) ?_)
      refine ⟨_, rfl, _, rfl, _, rfl, 9, 0, g, far, p, rfl, by omega, by omega, fun e q H1 s1 z => ?_, fun e n q H1 s1 z => ?_, fun e n => ?_⟩
      · subst e
        exact q1 trivial q H1 s1 (z.trans (congrArg (fun y => some (HO.tup [V.int y, V.int g])) (by omega)))
      · subst e
        exact q1 n q H1 s1 (z.trans (congrArg (fun y => some (HO.tup [V.int y])) (by omega)))
      · subst e
        exact q2 n
    | _ => exact absurd rfl hg
end
end Bm
set_option maxHeartbeats 800000
namespace Bm
open PySem PySem.Spec PyProof.Rows L2
/-! values that a deed may be told with: numbers, truths, texts, the empty tuple -/
inductive OkV (K : PySem.W.Frag) (H : Hp) : V → Prop
  | int (i : Int) : OkV K H (.int i)
  | bl (b : Bool) : OkV K H (.bl b)
  | str (x : Str) : OkV K H (.str x)
  | unit {a : Addr} (h : SqT K H a []) : OkV K H (.ref a)
theorem OkV.same {K : PySem.W.Frag} {H H' : Hp} {v : V} (e : Same H H') (h : OkV K H v) : OkV K H' v := by
  cases h with
  | int i => exact .int i
  | bl b => exact .bl b
  | str x => exact .str x
  | unit h => exact .unit (Same.tup e h)
def numB (v : V) (lo hi : Int) : Bool := match v with
  | .int i => decide (lo ≤ i) && decide (i ≤ hi)
  | _ => false
def isBl : V → Bool
  | .bl _ => true
  | _ => false
def isTm : V → Bool
  | .str s => TM.any fun z => z == s
  | _ => false
def partB (kind : Str) (v : V) : Bool := if kind = "when" then isTm v else if kind = "far" then isBl v else match ST.lookup kind with
  | some r => numB v r.1 r.2
  | none => false
def deedB : List V → Bool
  | .str z :: r => match PT.lookup z with
    | some ks => decide (r.length = ks.length) && ((ks.zip r).all fun p => partB p.1 p.2)
    | none => false
  | _ => false
section
variable {P : Program} {w : World} {K : PySem.W.Frag} {mg : Str → Option Value} {base : Heap} {f : Addr} {fd : FuncData} {dvs : List V} {odd : List Str}
/-! is_number -/
def spNum (K : PySem.W.Frag) : Sp := fun vs H Q _ => ∃ (v : V) (lo hi : Int), vs = [v, .int lo, .int hi] ∧ OkV K H v ∧ Q (.bl (numB v lo hi)) H
abbrev N_is_number : List Str := ["thing", "least", "most"]
theorem sc_is_number : FnScope ["thing", "least", "most"] ["thing", "least", "most"] (defScope s_is_number) := ⟨rfl, rfl, rfl, by decide +kernel, rfl, by decide +kernel, by decide +kernel⟩
theorem ok_num (F : FnP K "is_number" s_is_number dvs f fd) (g_isinstance : mg "isinstance" = none) (g_bool : mg "bool" = none) (g_int : mg "int" = none) : FnOk P w K mg base CX0 1 f fd ["thing", "least", "most"] (spNum K) := by
  refine F.ok sc_is_number (fun vs H Q E h => ?_) (fun cdv A outer s H vs Q E hr h => ?_)
  · obtain ⟨v, lo, hi, rfl, _⟩ := h
    rfl
  · obtain ⟨v, lo, hi, rfl, hv, q⟩ := h
    refine ⟨_, PSs.nox (pss_cons (ps_if (PW.pt (pw_or (pt_val (pe_callB call_isi rfl g_isinstance (by decide +kernel) (pa_cons (pv 0) (pa_cons (pe_bltn (v := .ty "bool") rfl g_bool (by decide +kernel) rfl) pa_nil)))) (pw_or1 (pt_not (pt_val (pe_callB call_isi rfl g_isinstance (by decide +kernel) (pa_cons (pv 0) (pa_cons (pe_bltn (v := .ty "int") rfl g_int (by decide +kernel) rfl) pa_nil)))))))) (pss_one (ps_ret pe_bl)) pss_nil)
      (pss_one (ps_ret (pe_chain op_le op_le (pv 1) (pv 0) (pv 2))))), ?_⟩
    refine ⟨_, rfl, ?_⟩
    cases hv with
    | int i =>
      refine ⟨_, _, _, _, _, rfl, .ty _, Knd.ty (.int i), kit_ty (r := false) (by decide +kernel), _, rfl, iteF ⟨_, rfl, _, _, _, _, _, rfl, .ty _, Knd.ty (.int i), kit_ty (r := true) (by decide +kernel), _, rfl, iteF ?_⟩⟩
      refine ⟨_, rfl, _, rfl, _, _, rfl, rfl, _, rfl, ?_⟩
      by_cases c : lo ≤ i
      · rw [decide_eq_true c]
        refine iteT ⟨_, rfl, _, _, rfl, rfl, ?_⟩
        have e : numB (.int i) lo hi = decide (i ≤ hi) := by
          show (decide (lo ≤ i) && decide (i ≤ hi)) = decide (i ≤ hi)
          rw [decide_eq_true c, Bool.true_and]
        rw [e] at q
        exact q
      · rw [decide_eq_false c]
        have e : numB (.int i) lo hi = false := by
          show (decide (lo ≤ i) && decide (i ≤ hi)) = false
          rw [decide_eq_false c, Bool.false_and]
        rw [e] at q
        exact iteF q
    | bl b => exact ⟨_, _, _, _, _, rfl, .ty _, Knd.ty (.bl b), kit_ty (r := true) (by decide +kernel), _, rfl, iteT q⟩
    | str x => exact ⟨_, _, _, _, _, rfl, .ty _, Knd.ty (.str x), kit_ty (r := false) (by decide +kernel), _, rfl, iteF ⟨_, rfl, _, _, _, _, _, rfl, .ty _, Knd.ty (.str x), kit_ty (r := false) (by decide +kernel), _, rfl, iteT q⟩⟩
    | unit h => exact ⟨_, _, _, _, _, rfl, .ty _, Knd.ty (.tup h), kit_ty (r := false) (by decide +kernel), _, rfl, iteF ⟨_, rfl, _, _, _, _, _, rfl, .ty _, Knd.ty (.tup h), kit_ty (r := false) (by decide +kernel), _, rfl, iteT q⟩⟩
abbrev KnN (P : Program) (w : World) (K : PySem.W.Frag) (mg : Str → Option Value) (base : Heap) : Prop := Kn P w K mg base CX0 1 "is_number" ["thing", "least", "most"] [] (spNum K)
/-! is_part -/
theorem tm_shaped : SeqAt.shaped (.tuple (TM.map PyData.str)) = true := by decide +kernel
theorem dpAll_strs {H : Hp} : ∀ l : List Str, DpAll K H (l.map V.str) (l.map PyData.str)
  | [] => .nil
  | x :: l => .cons (.str x) (dpAll_strs l)
theorem tm_in {H : Hp} {v : V} {p : Addr} {Q : VK} (h : OkV K H v) (hp : SqT K H p (TM.map V.str)) (q : Q (.bl (isTm v)) H) : rIn2 K v (.ref p) H Q := by
  cases h with
  | int i => exact .inl ⟨p, _, rfl, .inr hp, rfl, flat_strs TM, q⟩
  | bl b => exact .inl ⟨p, _, rfl, .inr hp, rfl, flat_strs TM, by cases b <;> exact q⟩
  | str x =>
    refine .inl ⟨p, _, rfl, .inr hp, rfl, flat_strs TM, ?_⟩
    have e : inV (.str x) (TM.map V.str) = isTm (.str x) := by
      unfold inV isTm
      rw [List.any_map]
      rfl
    show Q (.bl (inV (.str x) (TM.map V.str))) H
    rw [e]
    exact q
  | unit h =>
    refine .inr ⟨.tuple [], _, .tup h .nil, .tup hp (dpAll_strs TM), by decide +kernel, tm_shaped, ?_⟩
    exact q
def spPart (K : PySem.W.Frag) : Sp := fun vs H Q _ => ∃ (z : Str) (v : V), vs = [.str z, v] ∧ OkV K H v ∧ (z = "when" ∨ z = "far" ∨ ∃ r ∈ ST, r.1 = z) ∧ Q (.bl (partB z v)) H
abbrev N_is_part : List Str := ["kind", "thing", "least", "most"]
theorem sc_is_part : FnScope ["kind", "thing", "least", "most"] ["kind", "thing"] (defScope s_is_part) := ⟨rfl, rfl, rfl, by decide +kernel, rfl, by decide +kernel, by decide +kernel⟩
theorem st_at : ∀ r ∈ ST, ST.lookup r.1 = some r.2 ∧ r.1 ≠ "when" ∧ r.1 ≠ "far" := by decide +kernel
theorem ok_part (F : FnP K "is_part" s_is_part dvs f fd) (C : Con w K mg odd) (g_isinstance : mg "isinstance" = none) (g_bool : mg "bool" = none) (k_is_number : KnN P w K mg base) : FnOk P w K mg base CX0 2 f fd ["kind", "thing"] (spPart K) := by
  refine F.ok sc_is_part (fun vs H Q E h => ?_) (fun cdv A outer s H vs Q E hr h => ?_)
  · obtain ⟨z, v, rfl, _⟩ := h
    rfl
  · obtain ⟨z, v, rfl, hv, hz, q⟩ := h
    have g_TIMES := C.g_TIMES
    have g_SPANS := C.g_SPANS
    obtain ⟨es, n, D⟩ := C.spans
    refine ⟨_, PSs.nox (pss_cons (ps_if (pt_cmpR op_eq (pv 0) pe_str (nomark _)) (pss_one (ps_ret (pe_cmpR (op_in2 (hu65 hr)) (pv 1) (pe_glob (v := .ref (He.ga K "TIMES")) rfl g_TIMES rfl) rfl))) pss_nil)
      (pss_cons (ps_if (pt_cmpR op_eq (pv 0) pe_str (nomark _)) (pss_one (ps_ret (pe_callB call_isi rfl g_isinstance (by decide +kernel) (pa_cons (pv 1) (pa_cons (pe_bltn (v := .ty "bool") rfl g_bool (by decide +kernel) rfl) pa_nil))))) pss_nil)
      (pss_cons (ps_asg (pe_ix ix_kdict (pe_glob (v := .ref (He.ga K "SPANS")) rfl g_SPANS rfl) (pv 0) (fun _ _ => rfl)) (pg_tup rfl (pgs_cons (pg_name (i := 2) sc_is_part.nd rfl (Or.inl rfl)) (pgs_cons (pg_name (i := 3) sc_is_part.nd rfl (Or.inl rfl)) pgs_nil))))
      (pss_one (ps_ret (pk k_is_number hr (by decide) rfl pass0 (pa_cons (pv 1) (pa_cons (pv 2) (pa_cons (pv 3) pa_nil))))))))), ?_⟩
    refine ⟨_, rfl, rfl, _, rfl, ?_⟩
    by_cases h1 : z = "when"
    · subst h1
      refine iteT ?_
      have e : partB "when" v = isTm v := if_pos rfl
      rw [e] at q
      exact ⟨_, rfl, tm_in hv (C.tm H).1 q⟩
    · rw [decide_eq_false (fun e => h1 (V.str.inj e))]
      refine iteF ⟨_, rfl, rfl, _, rfl, ?_⟩
      by_cases h2 : z = "far"
      · subst h2
        refine iteT ⟨_, rfl, ?_⟩
        have e : partB "far" v = isBl v := (if_neg (by decide +kernel)).trans (if_pos rfl)
        rw [e] at q
        cases hv with
        | int i => exact ⟨_, _, _, _, _, rfl, .ty _, Knd.ty (.int i), kit_ty (r := false) (by decide +kernel), q⟩
        | bl b => exact ⟨_, _, _, _, _, rfl, .ty _, Knd.ty (.bl b), kit_ty (r := true) (by decide +kernel), q⟩
        | str x => exact ⟨_, _, _, _, _, rfl, .ty _, Knd.ty (.str x), kit_ty (r := false) (by decide +kernel), q⟩
        | unit h => exact ⟨_, _, _, _, _, rfl, .ty _, Knd.ty (.tup h), kit_ty (r := false) (by decide +kernel), q⟩
      · rw [decide_eq_false (fun e => h2 (V.str.inj e))]
        refine iteF ?_
        obtain ⟨r, hr1, rfl⟩ : ∃ r ∈ ST, r.1 = z := by
          rcases hz with e | e | e
          · exact absurd e h1
          · exact absurd e h2
          · exact e
        obtain ⟨t, e1, e2⟩ := C.span r hr1
        refine ⟨_, rfl, _, _, .ref t, rfl, rfl, ⟨es, n, _, D.at_, D.lit, e1, rfl⟩, t, _, rfl, e2 H, rfl, _, _, rfl, _, _, rfl, rfl, ?_⟩
        refine ⟨_, rfl, _, rfl, _, rfl, v, r.2.1, r.2.2, rfl, hv, ?_⟩
        have e : partB r.1 v = numB v r.2.1 r.2.2 := by
          unfold partB
          rw [if_neg h1, if_neg h2, (st_at r hr1).1]
        rw [← e]
        exact q
end
end Bm
set_option maxHeartbeats 800000
namespace Bm
open PySem PySem.Spec PyProof.Rows L2
section
variable {P : Program} {w : World} {K : PySem.W.Frag} {mg : Str → Option Value} {base : Heap} {f : Addr} {fd : FuncData} {dvs : List V} {odd : List Str}
/-! is_deed -/
abbrev KnP (P : Program) (w : World) (K : PySem.W.Frag) (mg : Str → Option Value) (base : Heap) : Prop := Kn P w K mg base CX0 2 "is_part" ["kind", "thing"] [] (spPart K)
def spDeed (K : PySem.W.Frag) (odd : List Str) : Sp := fun vs H Q _ => ∃ (a : Addr) (xs : List V), vs = [.ref a] ∧ SqT K H a xs ∧ (∀ x ∈ xs, OkV K H x) ∧ (∀ z r, xs = .str z :: r → (∃ ks, (z, ks) ∈ PT) ∨ z ∈ odd) ∧
  ∀ H', Same H H' → Q (.bl (deedB xs)) H'
abbrev N_is_deed : List Str := ["thing", "name", "kinds", "kind", "part"]
theorem sc_is_deed : FnScope ["thing", "name", "kinds", "kind", "part"] ["thing"] (defScope s_is_deed) := ⟨rfl, rfl, rfl, by decide +kernel, rfl, by decide +kernel, by decide +kernel⟩
theorem pt_at : ∀ r ∈ PT, PT.lookup r.1 = some r.2 := by decide +kernel
theorem pt_len : ∀ r ∈ PT, r.2.length ≤ 3 := by decide +kernel
theorem line_lt {n : Nat} (h : n < 100000) : n < sizeLine := Nat.lt_of_lt_of_le h (by decide)
theorem pt_kinds : ∀ r ∈ PT, ∀ z ∈ r.2, z = "when" ∨ z = "far" ∨ ∃ r ∈ ST, r.1 = z := by decide +kernel
theorem ok_deed (F : FnP K "is_deed" s_is_deed dvs f fd) (C : Con w K mg odd) (hodd : ∀ x ∈ odd, PT.lookup x = none) (g_isinstance : mg "isinstance" = none) (g_tuple : mg "tuple" = none) (g_str : mg "str" = none) (g_len : mg "len" = none)
    (g_all : mg "all" = none) (g_zip : mg "zip" = none) (k_is_part : KnP P w K mg base) : FnOk P w K mg base CX0 3 f fd ["thing"] (spDeed K odd) := by
  refine F.ok sc_is_deed (fun vs H Q E h => ?_) (fun cdv A outer s H vs Q E hr h => ?_)
  · obtain ⟨a, xs, rfl, _⟩ := h
    rfl
  · obtain ⟨a, xs, rfl, hS, hok, hodd', q⟩ := h
    have g_PARTS := C.g_PARTS
    obtain ⟨es, n, D_PARTS⟩ := C.parts
    refine ⟨_, PSs.nox (pss_cons (ps_if (PW.pt (pw_or (pt_not (pt_val (pe_callB call_isi rfl g_isinstance (by decide +kernel) (pa_cons (pv 0) (pa_cons (pe_bltn (v := .ty "tuple") rfl g_tuple (by decide +kernel) rfl) pa_nil))))) (pw_or1 (pt_cmpR op_eq (pe_callB call_len rfl g_len boot_len (pa_cons (pv 0) pa_nil)) pe_int (nomark _))))) (pss_one (ps_ret pe_bl)) pss_nil)
      (pss_cons (ps_set (i := 1) sc_is_deed.nd rfl (Or.inl rfl) (pe_ix ix_tup (pv 0) pe_int (fun _ _ => rfl)))
      (pss_cons (ps_if (PW.pt (pw_or (pt_not (pt_val (pe_callB call_isi rfl g_isinstance (by decide +kernel) (pa_cons (pv 1) (pa_cons (pe_bltn (v := .ty "str") rfl g_str (by decide +kernel) rfl) pa_nil))))) (pw_or1 (pt_cmpR (op_notIn_kd D_PARTS) (pv 1) (pe_glob (v := .ref (He.ga K "PARTS")) rfl g_PARTS rfl) rfl)))) (pss_one (ps_ret pe_bl)) pss_nil)
      (pss_cons (ps_set (i := 2) sc_is_deed.nd rfl (Or.inl rfl) (pe_ix ix_kdict (pe_glob (v := .ref (He.ga K "PARTS")) rfl g_PARTS rfl) (pv 1) (fun _ _ => rfl)))
      (pss_cons (ps_if (pt_cmpR op_ne (pe_callB call_len rfl g_len boot_len (pa_cons (pv 0) pa_nil)) (pe_op op_add (pe_callB call_len rfl g_len boot_len (pa_cons (pv 2) pa_nil)) pe_int) (nomark _)) (pss_one (ps_ret pe_bl)) pss_nil)
      (pss_one (ps_ret (pe_callB (cr_all rfl) rfl g_all (by decide +kernel) (pa_cons (pe_lc (own := [("kind", 3), ("part", 4)]) (g := gTup K 2 (gCons (gName 3) (gCons (gName 4) (gNil)))) rfl sc_is_deed.nd (RZ.pi_zipA rfl g_zip (pa_cons (pv 2) (pa_cons (pe_slice sl_tupA (pv 0) (po_some pe_int) po_none) pa_nil))) (blkOk_by (own := [("kind", 3), ("part", 4)]) (N := N_is_deed) (sc := defScope s_is_deed) (by decide +kernel)) (fun _ _ _ _ _ => (pg_tup rfl (pgs_cons (pg_name (i := 3) sc_is_deed.nd rfl (Or.inl rfl)) (pgs_cons (pg_name (i := 4) sc_is_deed.nd rfl (Or.inl rfl)) pgs_nil)))) (fun _ _ _ _ _ => pts_nil) (fun _ _ _ _ _ => (pk k_is_part hr (by decide) rfl pass0 (pa_cons (pv 3) (pa_cons (pv 4) pa_nil))))) pa_nil))))))))), ?_⟩
    refine ⟨_, rfl, _, _, _, _, _, rfl, .ty _, Knd.ty (.tup hS), kit_ty (r := true) (by decide +kernel), _, rfl, iteF ?_⟩
    cases xs with
    | nil => exact ⟨_, rfl, _, _, rfl, .inr ⟨_, hS, rfl⟩, rfl, _, rfl, iteT (q H (Same.refl H))⟩
    | cons x r =>
      refine ⟨_, rfl, _, _, rfl, .inr ⟨_, hS, rfl⟩, rfl, _, rfl, ?_⟩
      have nz : decide (V.int ((x :: r).length : Int) = V.int 0) = false := decide_eq_false fun z => by
        have z1 := V.int.inj z
        rw [List.length_cons] at z1
        omega
      rw [nz]
      refine iteF ⟨_, rfl, a, _, _, _, rfl, rfl, hS, at0, ?_⟩
      have hx := hok x (List.mem_cons_self ..)
      cases hx with
      | int i => exact ⟨_, rfl, _, _, _, _, _, rfl, .ty _, Knd.ty (.int i), kit_ty (r := false) (by decide +kernel), _, rfl, iteT (q H (Same.refl H))⟩
      | bl b => exact ⟨_, rfl, _, _, _, _, _, rfl, .ty _, Knd.ty (.bl b), kit_ty (r := false) (by decide +kernel), _, rfl, iteT (q H (Same.refl H))⟩
      | unit h => exact ⟨_, rfl, _, _, _, _, _, rfl, .ty _, Knd.ty (.tup h), kit_ty (r := false) (by decide +kernel), _, rfl, iteT (q H (Same.refl H))⟩
      | str z =>
        refine ⟨_, rfl, _, _, _, _, _, rfl, .ty _, Knd.ty (.str z), kit_ty (r := true) (by decide +kernel), _, rfl, iteF ⟨_, rfl, z, ?_⟩⟩
        by_cases hz : ∃ ks, (z, ks) ∈ PT
        · obtain ⟨ks, hks⟩ := hz
          obtain ⟨t, e1, e2⟩ := C.part _ hks
          have el : PT.lookup z = some ks := pt_at _ hks
          refine ⟨_, rfl, rfl, e1, _, rfl, iteF ?_⟩
          refine ⟨_, rfl, _, _, .ref t, rfl, rfl, ⟨es, n, _, D_PARTS.at_, D_PARTS.lit, e1, rfl⟩, ?_⟩
          refine ⟨_, rfl, _, _, rfl, .inr ⟨_, hS, rfl⟩, _, rfl, _, _, rfl, .inr ⟨_, e2 H, rfl⟩, _, _, rfl, rfl, rfl, _, rfl, ?_⟩
          have ed : deedB (.str z :: r) = (decide (r.length = ks.length) && ((ks.zip r).all fun p => partB p.1 p.2)) := by
            show (match PT.lookup z with
              | some ks => decide (r.length = ks.length) && ((ks.zip r).all fun p => partB p.1 p.2)
              | none => false) = _
            rw [el]
          have ec : decide (V.int ((V.str z :: r).length : Int) = V.int (((ks.map V.str).length : Nat) + 1 : Int)) = decide (r.length = ks.length) := by
            rw [List.length_cons, List.length_map]
            exact decide_eq_decide.mpr ⟨fun h => by have h2 := V.int.inj h; omega, fun h => congrArg V.int (by omega)⟩
          rw [ec]
          by_cases hl : r.length = ks.length
          · rw [decide_eq_true hl]
            refine iteF ?_
            refine ⟨_, rfl, _, rfl, _, rfl, a, _, rfl, hS, fun w => absurd w (not_whole_tail _ _), fun _ b hb => ?_⟩
            have s1 : Same H (upd H b (.tup (cutV (.str z :: r) (some 1) none))) := Same.add hb
            have h1 : (upd H b (.tup (cutV (.str z :: r) (some 1) none))) b = some (.tup r) := upd_same.trans (congrArg (fun l => some (HO.tup l)) (cut_tail _ _))
            generalize upd H b (.tup (cutV (.str z :: r) (some 1) none)) = H1 at s1 h1 ⊢
            refine ⟨t, b, ks.map V.str, r, rfl, .inr ⟨e2 H1, SqT.of h1, fun D hD => ?_⟩⟩
            have hlen : r.length = min (ks.map V.str).length r.length := by
              rw [List.length_map]
              omega
            refine lc_it (walk_zipT hlen) (fun i H2 => Same H1 H2 ∧ H2 D = some (.lst (((ks.zip r).take i).map fun p => V.bl (partB p.1 p.2)))) ⟨Same.add hD, upd_same⟩ (fun i H2 _ p => ⟨e2 H2, Same.tup p.1 (SqT.of h1)⟩) ?_ ?_
            · rintro i v H2 H3 hi ⟨p1, p2⟩ ⟨T, x, y, rfl, hT, rfl, hx, hy⟩
              refine ⟨T, _, rfl, SqT.of upd_same, rfl, _, _, rfl, _, _, rfl, rfl, rfl, ?_⟩
              have hx' : (ks.map V.str)[i]? = some x := hx
              rw [List.getElem?_map] at hx'
              cases ek : ks[i]? with
              | none => rw [ek] at hx'; cases hx'
              | some k =>
                rw [ek] at hx'
                have exk : x = V.str k := (Option.some.inj hx').symm
                subst exk
                have hy' : r[i]? = some y := hy
                have s3 : Same H1 (upd H2 T (.tup [V.str k, y])) := Same.trans p1 (Same.add hT)
                have oky : OkV K (upd H2 T (.tup [V.str k, y])) y := OkV.same (Same.trans s1 s3) (hok y (List.mem_cons_of_mem _ (List.mem_of_getElem? hy')))
                refine ⟨_, rfl, _, rfl, k, y, rfl, oky, pt_kinds _ hks k (List.mem_of_getElem? ek), ?_⟩
                have ez : (ks.zip r)[i]? = some (k, y) := List.getElem?_zip_eq_some.mpr ⟨ek, hy'⟩
                refine ⟨_, Same.add hT D _ p2, line_lt ?_, Same.mut s3 hD, ?_⟩
                · rw [List.length_map, List.length_take, List.length_zip, hl]
                  have := (List.getElem?_eq_some_iff.mp ek).1
                  have h6 : ks.length ≤ 3 := pt_len _ hks
                  omega
                · rw [upd_same, take_succ' ez, List.map_append]
                  rfl
            · rintro H2 ⟨p1, p2⟩
              have ez : (ks.zip r).length = r.length := by
                rw [List.length_zip]
                omega
              rw [← ez, List.take_length] at p2
              have p3 : H2 D = some (.lst (((ks.zip r).map fun p => partB p.1 p.2).map V.bl)) := by
                rw [p2, List.map_map]
                rfl
              refine ⟨D, _, rfl, SqL.of p3, ?_⟩
              have e5 : deedB (.str z :: r) = ((ks.zip r).map fun p => partB p.1 p.2).all id := by
                rw [ed, decide_eq_true hl, Bool.true_and, List.all_map]
                rfl
              rw [← e5]
              exact q H2 (Same.trans s1 p1)
          · rw [decide_eq_false hl]
            refine iteT ?_
            rw [ed, decide_eq_false hl, Bool.false_and] at q
            exact q H (Same.refl H)
        · have ho : z ∈ odd := by
            rcases hodd' z r rfl with h | h
            · exact absurd h hz
            · exact h
          refine ⟨_, rfl, rfl, C.odd z ho, _, rfl, iteT ?_⟩
          have ed : deedB (.str z :: r) = false := by
            show (match PT.lookup z with
              | some ks => decide (r.length = ks.length) && ((ks.zip r).all fun p => partB p.1 p.2)
              | none => false) = _
            rw [hodd z ho]
          rw [ed] at q
          exact q H (Same.refl H)
end
end Bm
set_option maxHeartbeats 800000
namespace Bm
open PySem PySem.Spec PyProof.Rows L2
/-! what a list of values that is a deed looks like -/
theorem numB_iff {v : V} {lo hi : Int} (h : numB v lo hi = true) : ∃ i, v = .int i ∧ lo ≤ i ∧ i ≤ hi := by
  cases v with
  | int i =>
    obtain ⟨h1, h2⟩ := Bool.and_eq_true_iff.mp (show (decide (lo ≤ i) && decide (i ≤ hi)) = true from h)
    exact ⟨i, rfl, of_decide_eq_true h1, of_decide_eq_true h2⟩
  | _ => cases h
theorem isBl_iff {v : V} (h : isBl v = true) : ∃ b, v = .bl b := by
  cases v with
  | bl b => exact ⟨b, rfl⟩
  | _ => cases h
theorem isTm_iff {v : V} (h : isTm v = true) : ∃ k, k < 7 ∧ v = .str (nm TM k) := by
  cases v with
  | str s =>
    obtain ⟨z, hz, e⟩ := List.any_eq_true.mp (show (TM.any fun z => z == s) = true from h)
    have e1 : z = s := eq_of_beq e
    subst e1
    have : ∀ z ∈ TM, ∃ k, k < 7 ∧ z = nm TM k := by decide +kernel
    obtain ⟨k, h1, h2⟩ := this z hz
    exact ⟨k, h1, by rw [← h2]⟩
  | _ => cases h
theorem part_reg {v : V} (h : partB "reg" v = true) : ∃ i, v = .int i ∧ r3 i := numB_iff h
theorem part_k {z : Str} {v : V} (r : Int × Int) (e : ∀ v, partB z v = numB v r.1 r.2) (h : partB z v = true) : ∃ i, v = .int i ∧ r.1 ≤ i ∧ i ≤ r.2 := by
  rw [e v] at h
  exact numB_iff h
theorem zip1 {k : Str} {r : List V} {ks : List Str} (hl : r.length = (k :: ks).length) (h : ((k :: ks).zip r).all (fun p => partB p.1 p.2) = true) : ∃ v r', r = v :: r' ∧ r'.length = ks.length ∧ partB k v = true ∧ (ks.zip r').all (fun p => partB p.1 p.2) = true := by
  cases r with
  | nil => cases hl
  | cons v r' =>
    obtain ⟨h1, h2⟩ := Bool.and_eq_true_iff.mp (show (partB k v && (ks.zip r').all fun p => partB p.1 p.2) = true from h)
    exact ⟨v, r', rfl, Nat.succ.inj hl, h1, h2⟩
theorem nil_of {r : List V} {ks : List Str} (h : ks = []) (hl : r.length = ks.length) : r = [] := by
  subst h
  cases r with
  | nil => rfl
  | cons _ _ => cases hl
theorem deed_of {xs : List V} (h : deedB xs = true) : ∃ d : De, d.ok ∧ xs = d.vals := by
  cases xs with
  | nil => cases h
  | cons x r =>
    cases x with
    | str z =>
      have h : (match PT.lookup z with
        | some ks => decide (r.length = ks.length) && ((ks.zip r).all fun p => partB p.1 p.2)
        | none => false) = true := h
      cases e : PT.lookup z with
      | none => rw [e] at h; cases h
      | some ks =>
        rw [e] at h
        obtain ⟨h1, h2⟩ := Bool.and_eq_true_iff.mp (show (decide (r.length = ks.length) && ((ks.zip r).all fun p => partB p.1 p.2)) = true from h)
        have h1 := of_decide_eq_true h1
        have hm : (z, ks) ∈ PT := by
          have : ∀ (l : List (Str × List Str)) (z : Str) (ks : List Str), l.lookup z = some ks → (z, ks) ∈ l := by
            intro l
            induction l with
            | nil => intro z ks h; cases h
            | cons p l ih =>
              obtain ⟨a, b⟩ := p
              intro z ks h
              rw [List.lookup_cons] at h
              by_cases c : z == a
              · rw [c] at h
                have e1 := eq_of_beq c
                have e2 : b = ks := Option.some.inj h
                rw [e1, ← e2]
                exact List.mem_cons_self ..
              · have c2 : (z == a) = false := by simpa using c
                rw [c2] at h
                exact List.mem_cons_of_mem _ (ih z ks h)
          exact this _ _ _ e
        clear e h
        have cases_ : ∀ p ∈ PT, (∃ k, k < 3 ∧ p = ((nm SG k, []) : Str × List Str)) ∨ (∃ k, k < 7 ∧ 3 ≤ k ∧ p = ((nm SG k, ["reg"]) : Str × List Str)) ∨ (∃ k, k < 8 ∧ p = ((nm SM k, ["reg", "reg", "reg"]) : Str × List Str)) ∨ p = (("plus", ["reg", "reg", "signed six"]) : Str × List Str) ∨
            p = (("set", ["reg", "nine"]) : Str × List Str) ∨ p = (("high", ["reg", "seven"]) : Str × List Str) ∨ p = (("load", ["reg", "reg", "six"]) : Str × List Str) ∨ p = (("store", ["reg", "reg", "six"]) : Str × List Str) ∨
            p = (("jump", ["when", "goal", "far"]) : Str × List Str) ∨ p = (("call", ["goal", "far"]) : Str × List Str) := by decide +kernel
        rcases cases_ _ hm with ⟨k, hk, e⟩ | ⟨k, hk2, hk, e⟩ | ⟨k, hk, e⟩ | e | e | e | e | e | e | e <;> (obtain ⟨rfl, rfl⟩ := Prod.mk.inj e)
        · obtain rfl := nil_of rfl h1
          exact ⟨.sgl k, hk, rfl⟩
        · obtain ⟨v, r, rfl, h1, p1, h2⟩ := zip1 h1 h2
          obtain rfl := nil_of rfl h1
          obtain ⟨a, rfl, ha⟩ := part_reg p1
          exact ⟨.reg k a, ⟨hk, hk2, ha⟩, rfl⟩
        · obtain ⟨v, r, rfl, h1, p1, h2⟩ := zip1 h1 h2
          obtain ⟨v2, r, rfl, h1, p2, h2⟩ := zip1 h1 h2
          obtain ⟨v3, r, rfl, h1, p3, h2⟩ := zip1 h1 h2
          obtain rfl := nil_of rfl h1
          obtain ⟨d, rfl, hd⟩ := part_reg p1
          obtain ⟨a, rfl, ha⟩ := part_reg p2
          obtain ⟨b, rfl, hb⟩ := part_reg p3
          exact ⟨.sum k d a b, ⟨hk, hd, ha, hb⟩, rfl⟩
        · obtain ⟨v, r, rfl, h1, p1, h2⟩ := zip1 h1 h2
          obtain ⟨v2, r, rfl, h1, p2, h2⟩ := zip1 h1 h2
          obtain ⟨v3, r, rfl, h1, p3, h2⟩ := zip1 h1 h2
          obtain rfl := nil_of rfl h1
          obtain ⟨d, rfl, hd⟩ := part_reg p1
          obtain ⟨a, rfl, ha⟩ := part_reg p2
          obtain ⟨n, rfl, hn⟩ := part_k (-32, 31) (fun v => rfl) p3
          exact ⟨.plus d a n, ⟨hd, ha, hn⟩, rfl⟩
        · obtain ⟨v, r, rfl, h1, p1, h2⟩ := zip1 h1 h2
          obtain ⟨v2, r, rfl, h1, p2, h2⟩ := zip1 h1 h2
          obtain rfl := nil_of rfl h1
          obtain ⟨d, rfl, hd⟩ := part_reg p1
          obtain ⟨n, rfl, hn⟩ := part_k (0, 511) (fun v => rfl) p2
          exact ⟨.set d n, ⟨hd, hn⟩, rfl⟩
        · obtain ⟨v, r, rfl, h1, p1, h2⟩ := zip1 h1 h2
          obtain ⟨v2, r, rfl, h1, p2, h2⟩ := zip1 h1 h2
          obtain rfl := nil_of rfl h1
          obtain ⟨d, rfl, hd⟩ := part_reg p1
          obtain ⟨n, rfl, hn⟩ := part_k (0, 127) (fun v => rfl) p2
          exact ⟨.high d n, ⟨hd, hn⟩, rfl⟩
        · obtain ⟨v, r, rfl, h1, p1, h2⟩ := zip1 h1 h2
          obtain ⟨v2, r, rfl, h1, p2, h2⟩ := zip1 h1 h2
          obtain ⟨v3, r, rfl, h1, p3, h2⟩ := zip1 h1 h2
          obtain rfl := nil_of rfl h1
          obtain ⟨d, rfl, hd⟩ := part_reg p1
          obtain ⟨a, rfl, ha⟩ := part_reg p2
          obtain ⟨n, rfl, hn⟩ := part_k (0, 63) (fun v => rfl) p3
          exact ⟨.load d a n, ⟨hd, ha, hn⟩, rfl⟩
        · obtain ⟨v, r, rfl, h1, p1, h2⟩ := zip1 h1 h2
          obtain ⟨v2, r, rfl, h1, p2, h2⟩ := zip1 h1 h2
          obtain ⟨v3, r, rfl, h1, p3, h2⟩ := zip1 h1 h2
          obtain rfl := nil_of rfl h1
          obtain ⟨d, rfl, hd⟩ := part_reg p1
          obtain ⟨a, rfl, ha⟩ := part_reg p2
          obtain ⟨n, rfl, hn⟩ := part_k (0, 63) (fun v => rfl) p3
          exact ⟨.store d a n, ⟨hd, ha, hn⟩, rfl⟩
        · obtain ⟨v, r, rfl, h1, p1, h2⟩ := zip1 h1 h2
          obtain ⟨v2, r, rfl, h1, p2, h2⟩ := zip1 h1 h2
          obtain ⟨v3, r, rfl, h1, p3, h2⟩ := zip1 h1 h2
          obtain rfl := nil_of rfl h1
          obtain ⟨k, hk, rfl⟩ := isTm_iff p1
          obtain ⟨g, rfl, hg⟩ := part_k (0, 65535) (fun v => rfl) p2
          obtain ⟨b, rfl⟩ := isBl_iff p3
          exact ⟨.jump k g b, ⟨hk, hg⟩, rfl⟩
        · obtain ⟨v, r, rfl, h1, p1, h2⟩ := zip1 h1 h2
          obtain ⟨v2, r, rfl, h1, p2, h2⟩ := zip1 h1 h2
          obtain rfl := nil_of rfl h1
          obtain ⟨g, rfl, hg⟩ := part_k (0, 65535) (fun v => rfl) p1
          obtain ⟨b, rfl⟩ := isBl_iff p2
          exact ⟨.call g b, hg, rfl⟩
    | _ => cases h
end Bm
set_option maxHeartbeats 800000
namespace Bm
open PySem PySem.Spec PyProof.Rows L2
theorem rcat {K : PySem.W.Frag} {H : Hp} {a b : Addr} {xs ys : List V} {Q : VK} (h1 : SqT K H a xs) (h2 : SqT K H b ys) (hl : xs.length + ys.length ≤ 100000) (q : ∀ p H', Same H H' → SqT K H' p (xs ++ ys) → Q (.ref p) H') : rCatA K (.ref a) (.ref b) H Q :=
  ⟨_, _, _, _, rfl, rfl, h1, h2, line5 hl, fun e => by subst e; exact q _ _ (Same.refl _) h2, fun _ e => by subst e; exact q _ _ (Same.refl _) (by rw [List.append_nil]; exact h1), fun _ _ p hp => q p _ (Same.add hp) (SqT.of upd_same)⟩
theorem cut_whole {xs : List V} {lo hi : Option Int} (h : HT.sIx xs.length 0 lo = 0 ∧ HT.sIx xs.length xs.length hi = xs.length) : cutV xs lo hi = xs := by
  unfold cutV
  rw [h.1, h.2]
  show xs.take (xs.length - 0) = xs
  rw [Nat.sub_zero, List.take_length]
theorem rsl {K : PySem.W.Frag} {H : Hp} {a : Addr} {xs : List V} {lo hi : Option Int} {Q : VK} (h : SqT K H a xs) (q : ∀ p H', Same H H' → SqT K H' p (cutV xs lo hi) → Q (.ref p) H') : rSlA K (.ref a) lo hi H Q :=
  ⟨_, _, rfl, h, fun e => q _ _ (Same.refl _) (by rw [cut_whole e]; exact h), fun _ p hp => q p _ (Same.add hp) (SqT.of upd_same)⟩
theorem cut_one {xs : List V} {k : Nat} : cutV xs (some (k : Int)) (some ((k : Int) + 1)) = (xs.drop k).take 1 := by
  have e : ((k : Int) + 1) = ((k + 1 : Nat) : Int) := by omega
  unfold cutV
  rw [e, HT.sIx_nat, HT.sIx_nat]
  by_cases h : k < xs.length
  · rw [Nat.min_eq_left (Nat.le_of_lt h), Nat.min_eq_left h]
    congr 1
    omega
  · have h1 : xs.length ≤ k := by omega
    rw [Nat.min_eq_right h1, Nat.min_eq_right (by omega), List.drop_of_length_le (Nat.le_refl _), List.drop_of_length_le h1]
    simp
section
variable {P : Program} {w : World} {K : PySem.W.Frag} {mg : Str → Option Value} {base : Heap} {f : Addr} {fd : FuncData} {dvs : List V} {odd : List Str}
/-! is_word -/
abbrev KnN2 (P : Program) (w : World) (K : PySem.W.Frag) (mg : Str → Option Value) (base : Heap) : Prop := KnN P w K mg base
def spWord (K : PySem.W.Frag) : Sp := fun vs H Q _ => ∃ v : V, vs = [v] ∧ OkV K H v ∧ Q (.bl (numB v 0 65535)) H
abbrev N_is_word : List Str := ["thing"]
theorem sc_is_word : FnScope ["thing"] ["thing"] (defScope s_is_word) := ⟨rfl, rfl, rfl, by decide +kernel, rfl, by decide +kernel, by decide +kernel⟩
theorem ok_word (F : FnP K "is_word" s_is_word dvs f fd) (k_is_number : KnN P w K mg base) (gm : ∃ t, mg "WORD_MOST" = some (.int 65535 t)) : FnOk P w K mg base CX0 2 f fd ["thing"] (spWord K) := by
  refine F.ok sc_is_word (fun vs H Q E h => ?_) (fun cdv A outer s H vs Q E hr h => ?_)
  · obtain ⟨v, rfl, _⟩ := h
    rfl
  · obtain ⟨v, rfl, hv, q⟩ := h
    obtain ⟨tk, g_WORD_MOST⟩ := gm
    let v_WORD_MOST : Int := 65535
    refine ⟨_, PSs.nox (pss_one (ps_ret (pk k_is_number hr (by decide) rfl pass0 (pa_cons (pv 0) (pa_cons pe_int (pa_cons (pe_glob (v := .int v_WORD_MOST) rfl g_WORD_MOST ⟨_, rfl⟩) pa_nil)))))), ?_⟩
    exact ⟨_, rfl, v, 0, 65535, rfl, hv, q⟩
/-! first_wrong -/
abbrev KnWd (P : Program) (w : World) (K : PySem.W.Frag) (mg : Str → Option Value) (base : Heap) : Prop := Kn P w K mg base CX0 2 "is_word" ["thing"] [] (spWord K)
def isW (x : Int) : Bool := numB (.int x) 0 65535
def spWrong (K : PySem.W.Frag) : Sp := fun vs H Q _ => ∃ (a : Addr) (ws : List Int) (m : Nat), vs = [.ref a, .int (m : Nat)] ∧ (SqL K H a (vInts ws) ∨ SqT K H a (vInts ws)) ∧
  (∀ j H', Same H H' → j < ws.length → (j = m ∨ ∃ x, ws[j]? = some x ∧ isW x = false) → (∀ i x, i < j → ws[i]? = some x → i ≠ m ∧ isW x = true) → Q (.int (j : Nat)) H') ∧
  ((∀ i x, ws[i]? = some x → i ≠ m ∧ isW x = true) → ∀ H', Same H H' → Q .non H')
abbrev N_first_wrong : List Str := ["row", "most", "number", "thing"]
theorem sc_first_wrong : FnScope ["row", "most", "number", "thing"] ["row", "most"] (defScope s_first_wrong) := ⟨rfl, rfl, rfl, by decide +kernel, rfl, by decide +kernel, by decide +kernel⟩
theorem ok_wrong (F : FnP K "first_wrong" s_first_wrong dvs f fd) (k_is_word : KnWd P w K mg base) (g_enumerate : mg "enumerate" = none) : FnOk P w K mg base CX0 3 f fd ["row", "most"] (spWrong K) := by
  refine F.ok sc_first_wrong (fun vs H Q E h => ?_) (fun cdv A outer s H vs Q E hr h => ?_)
  · obtain ⟨a, ws, m, rfl, _⟩ := h
    rfl
  · obtain ⟨a, ws, m, rfl, hS, q1, q2⟩ := h
    refine ⟨_, PSs.nox (pss_cons (ps_for PassesOwn.never rfl (pi_enumA rfl g_enumerate (pa_cons (pv 0) pa_nil)) (pg_tup rfl (pgs_cons (pg_name (i := 2) sc_first_wrong.nd rfl (Or.inl rfl)) (pgs_cons (pg_name (i := 3) sc_first_wrong.nd rfl (Or.inl rfl)) pgs_nil)))
      (pss_one (ps_if (PW.pt (pw_or (pt_cmpR op_eq (pv 2) (pv 1) (nomark _)) (pw_or1 (pt_not (pt_val (pk k_is_word hr (by decide) rfl pass0 (pa_cons (pv 3) pa_nil))))))) (pss_one (ps_ret (pv 2))) pss_nil)))
      (pss_one (ps_ret pe_non))), ?_⟩
    rcases hS with hS | hS
    · refine ⟨_, rfl, a, _, rfl, .inl ⟨hS, ?_⟩⟩
      refine for_it walk_enum (fun i σ H2 => ∃ v2 v3 : Option V, σ = [some (.ref a), some (.int (m : Nat)), v2, v3] ∧ Same H H2 ∧ ∀ j x, j < i → ws[j]? = some x → j ≠ m ∧ isW x = true) ⟨none, none, rfl, Same.refl H, fun j x z => absurd z (Nat.not_lt_zero _)⟩ (fun i σ H2 _ p => by obtain ⟨_, _, _, e, _⟩ := p; exact e.seq hS) ?_ ?_
      · rintro i v σ H2 H3 hi ⟨v2, v3, rfl, e2, h2⟩ ⟨T, x, y, rfl, hT, rfl, hx, hy⟩
        cases hx
        have hy : (vInts ws)[i]? = some y := hy
        rw [vInts, List.getElem?_map] at hy
        cases ew : ws[i]? with
        | none => rw [ew] at hy; cases hy
        | some z =>
          rw [ew] at hy
          cases hy
          have s3 : Same H (upd H2 T (.tup [.int (i : Nat), .int z])) := Same.trans e2 (Same.add hT)
          have il : i < ws.length := (List.getElem?_eq_some_iff.mp ew).1
          refine ⟨T, _, rfl, SqT.of upd_same, rfl, _, _, rfl, _, _, rfl, rfl, ?_⟩
          refine ⟨_, rfl, _, rfl, rfl, _, rfl, ?_⟩
          by_cases em : i = m
          · rw [decide_eq_true (by rw [em])]
            exact iteT ⟨_, rfl, q1 i _ s3 il (.inl em) h2⟩
          · rw [decide_eq_false (fun w => em (by have := V.int.inj w; omega))]
            refine iteF ⟨_, rfl, .int z, rfl, .int z, _, rfl, ?_⟩
            show if (!isW z) = true then _ else _
            cases ez : isW z with
            | false => exact iteT ⟨_, rfl, q1 i _ s3 il (.inr ⟨z, ew, ez⟩) h2⟩
            | true => exact iteF ⟨_, _, rfl, s3, fun j x hj hx => by
                by_cases e : j = i
                · subst e
                  rw [ew] at hx
                  cases hx
                  exact ⟨em, ez⟩
                · exact h2 j x (by omega) hx⟩
      · rintro σ H2 ⟨v2, v3, rfl, e2, h2⟩
        exact q2 (fun j x hx => h2 j x (by have := (List.getElem?_eq_some_iff.mp hx).1; rw [vInts, List.length_map]; exact this) hx) H2 e2
    · refine ⟨_, rfl, a, _, rfl, .inr ⟨hS, ?_⟩⟩
      refine for_it walk_enumT (fun i σ H2 => ∃ v2 v3 : Option V, σ = [some (.ref a), some (.int (m : Nat)), v2, v3] ∧ Same H H2 ∧ ∀ j x, j < i → ws[j]? = some x → j ≠ m ∧ isW x = true) ⟨none, none, rfl, Same.refl H, fun j x z => absurd z (Nat.not_lt_zero _)⟩ (fun i σ H2 _ p => by obtain ⟨_, _, _, e, _⟩ := p; exact Same.tup e hS) ?_ ?_
      · rintro i v σ H2 H3 hi ⟨v2, v3, rfl, e2, h2⟩ ⟨T, x, y, rfl, hT, rfl, hx, hy⟩
        cases hx
        have hy : (vInts ws)[i]? = some y := hy
        rw [vInts, List.getElem?_map] at hy
        cases ew : ws[i]? with
        | none => rw [ew] at hy; cases hy
        | some z =>
          rw [ew] at hy
          cases hy
          have s3 : Same H (upd H2 T (.tup [.int (i : Nat), .int z])) := Same.trans e2 (Same.add hT)
          have il : i < ws.length := (List.getElem?_eq_some_iff.mp ew).1
          refine ⟨T, _, rfl, SqT.of upd_same, rfl, _, _, rfl, _, _, rfl, rfl, ?_⟩
          refine ⟨_, rfl, _, rfl, rfl, _, rfl, ?_⟩
          by_cases em : i = m
          · rw [decide_eq_true (by rw [em])]
            exact iteT ⟨_, rfl, q1 i _ s3 il (.inl em) h2⟩
          · rw [decide_eq_false (fun w => em (by have := V.int.inj w; omega))]
            refine iteF ⟨_, rfl, .int z, rfl, .int z, _, rfl, ?_⟩
            show if (!isW z) = true then _ else _
            cases ez : isW z with
            | false => exact iteT ⟨_, rfl, q1 i _ s3 il (.inr ⟨z, ew, ez⟩) h2⟩
            | true => exact iteF ⟨_, _, rfl, s3, fun j x hj hx => by
                by_cases e : j = i
                · subst e
                  rw [ew] at hx
                  cases hx
                  exact ⟨em, ez⟩
                · exact h2 j x (by omega) hx⟩
      · rintro σ H2 ⟨v2, v3, rfl, e2, h2⟩
        exact q2 (fun j x hx => h2 j x (by have := (List.getElem?_eq_some_iff.mp hx).1; rw [vInts, List.length_map]; exact this) hx) H2 e2
end
end Bm
set_option maxHeartbeats 800000
namespace Bm
open PySem PySem.Spec PyProof.Rows L2
/-! the deed that words may be -/
def sgn (b h : Int) : Int := if h ≤ b then b - 2 * h else b
def gsGoing (form f near : Int) (bh : List V) : List V :=
  if form = 7 then [.str "jump"] ++ ((TM.map V.str).drop f.toNat).take 1 ++ [.int near, .bl false]
  else if form = 8 then [.str "jump"] ++ ((TM.map V.str).drop f.toNat).take 1 ++ bh ++ [.bl true]
  else if form = 9 then [.str "call", .int near, .bl false]
  else if form = 10 then [.str "call"] ++ bh ++ [.bl true]
  else []
def gs (word p : Int) (bh : List V) : List V :=
  if word / 4096 = 0 then ((SG.map V.str).drop (word / 512 % 8).toNat).take 1 ++ (if 2 < word / 512 % 8 then [.int (word / 64 % 8)] else [])
  else if word / 4096 = 1 then [.str (nm SM (word % 8).toNat), .int (word / 512 % 8), .int (word / 64 % 8), .int (word / 8 % 8)]
  else if word / 4096 = 2 then [.str "plus", .int (word / 512 % 8), .int (word / 64 % 8), .int (sgn (word % 64) 32)]
  else if word / 4096 = 3 then [.str "set", .int (word / 512 % 8), .int (word % 512)]
  else if word / 4096 = 4 then [.str "high", .int (word / 512 % 8), .int (word % 128)]
  else if word / 4096 = 5 then [.str "load", .int (word / 512 % 8), .int (word / 64 % 8), .int (word % 64)]
  else if word / 4096 = 6 then [.str "store", .int (word / 512 % 8), .int (word / 64 % 8), .int (word % 64)]
  else gsGoing (word / 4096) (word / 512 % 8) (p + 1 + sgn (word % 32) 16) bh
theorem list3 {α : Type} {a b c x y z : α} (h1 : a = x) (h2 : b = y) (h3 : c = z) : [a, b, c] = [x, y, z] := by rw [h1, h2, h3]
theorem mask9 (x : Int) : Builtin.bitAnd x 511 = x % 512 := PySem.W.kbt_mask x 9
section
variable {P : Program} {w : World} {K : PySem.W.Frag} {mg : Str → Option Value} {base : Heap} {f : Addr} {fd : FuncData} {dvs : List V} {odd : List Str}
def spSigned : Sp := fun vs H Q _ => ∃ b h : Int, vs = [.int b, .int h] ∧ Q (.int (sgn b h)) H
abbrev N_signed : List Str := ["bits", "half"]
theorem sc_signed : FnScope ["bits", "half"] ["bits", "half"] (defScope s_signed) := ⟨rfl, rfl, rfl, by decide +kernel, rfl, by decide +kernel, by decide +kernel⟩
theorem ok_signed (F : FnP K "signed" s_signed dvs f fd) : FnOk P w K mg base CX0 1 f fd ["bits", "half"] spSigned := by
  refine F.ok sc_signed (fun vs H Q E h => ?_) (fun cdv A outer s H vs Q E hr h => ?_)
  · obtain ⟨b, h, rfl, _⟩ := h
    rfl
  · obtain ⟨b, h, rfl, q⟩ := h
    refine ⟨_, PSs.nox (pss_one (ps_ret (pe_ifExp (pt_cmpR op_ge (pv 0) (pv 1) (nomark _)) (pe_op op_sub (pv 0) (pe_op op_mul pe_int (pv 1))) (pv 0)))), ?_⟩
    refine ⟨_, rfl, _, rfl, _, _, rfl, rfl, _, rfl, ?_⟩
    unfold sgn at q
    by_cases c : h ≤ b
    · rw [if_pos c] at q
      rw [decide_eq_true (show b ≥ h from c)]
      refine iteT ⟨_, rfl, _, rfl, _, _, rfl, rfl, .inl ⟨by decide, by decide⟩, _, _, rfl, rfl, q⟩
    · rw [if_neg c] at q
      rw [decide_eq_false (show ¬ b ≥ h from c)]
      exact iteF ⟨_, rfl, q⟩
abbrev KnSi (P : Program) (w : World) (K : PySem.W.Frag) (mg : Str → Option Value) (base : Heap) : Prop := Kn P w K mg base CX0 1 "signed" ["bits", "half"] [] spSigned
def spGGoing (K : PySem.W.Frag) : Sp := fun vs H Q _ => ∃ (form f near : Int) (b : Addr) (bh : List V), vs = [.int form, .int f, .int near, .ref b] ∧ SqT K H b bh ∧ bh.length ≤ 1 ∧ 0 ≤ f ∧ f < 8 ∧ ∀ q H', Same H H' → SqT K H' q (gsGoing form f near bh) → Q (.ref q) H'
abbrev N_guessed_going : List Str := ["form", "first", "near", "behind", "when"]
theorem sc_guessed_going : FnScope ["form", "first", "near", "behind", "when"] ["form", "first", "near", "behind"] (defScope s_guessed_going) := ⟨rfl, rfl, rfl, by decide +kernel, rfl, by decide +kernel, by decide +kernel⟩
theorem ok_ggoing (F : FnP K "guessed_going" s_guessed_going dvs f fd) (C : Con w K mg odd) : FnOk P w K mg base CX0 1 f fd ["form", "first", "near", "behind"] (spGGoing K) := by
  refine F.ok sc_guessed_going (fun vs H Q E h => ?_) (fun cdv A outer s H vs Q E hr h => ?_)
  · obtain ⟨form, f, near, b, bh, rfl, _⟩ := h
    rfl
  · obtain ⟨form, fi, near, b, bh, rfl, hb, hl, f0, f1, q⟩ := h
    have g_TIMES := C.g_TIMES
    refine ⟨_, PSs.nox (pss_cons (ps_set (i := 4) sc_guessed_going.nd rfl (Or.inl rfl) (pe_slice sl_tupA (pe_glob (v := .ref (He.ga K "TIMES")) rfl g_TIMES rfl) (po_some (pv 1)) (po_some (pe_op op_add (pv 1) pe_int))))
      (pss_one (ps_match (pv 0) (pcs_cons sc_guessed_going.nd (pp_val pe_int) (pss_one (ps_ret (pe_op op_catA (pe_op op_catA (pe_tup (pa_cons pe_str pa_nil)) (pv 4)) (pe_tup (pa_cons (pv 2) (pa_cons pe_bl pa_nil))))))
      (pcs_cons sc_guessed_going.nd (pp_val pe_int) (pss_one (ps_ret (pe_op op_catA (pe_op op_catA (pe_op op_catA (pe_tup (pa_cons pe_str pa_nil)) (pv 4)) (pv 3)) (pe_tup (pa_cons pe_bl pa_nil)))))
      (pcs_cons sc_guessed_going.nd (pp_val pe_int) (pss_one (ps_ret (pe_tup (pa_cons pe_str (pa_cons (pv 2) (pa_cons pe_bl pa_nil))))))
      (pcs_cons sc_guessed_going.nd (pp_val pe_int) (pss_one (ps_ret (pe_op op_catA (pe_op op_catA (pe_tup (pa_cons pe_str pa_nil)) (pv 3)) (pe_tup (pa_cons pe_bl pa_nil)))))
      (pcs_cons sc_guessed_going.nd pp_wild (pss_one (ps_ret (pe_tup pa_nil)))
      pcs_nil)))))))), ?_⟩
    obtain ⟨k, rfl⟩ : ∃ k : Nat, fi = (k : Int) := ⟨fi.toNat, by omega⟩
    refine ⟨_, rfl, _, rfl, _, rfl, _, _, rfl, rfl, _, rfl, rsl (C.tm H).1 fun pw H1 s1 hw => ?_⟩
    rw [cut_one] at hw
    have lw : (((TM.map V.str).drop k).take 1).length ≤ 1 := by rw [List.length_take]; omega
    have eqk : ∀ xs : List V, gsGoing form (k : Int) near bh = xs → gsGoing form (k : Int) near bh = xs := fun _ e => e
    have ek : ((k : Int)).toNat = k := Int.toNat_natCast k
    generalize hwn : ((TM.map V.str).drop k).take 1 = wn at hw lw
    have hb1 := Same.tup s1 hb
    refine ⟨_, rfl, ?_⟩
    by_cases c7 : form = 7
    · subst c7
      refine cs_yes (pev_yes rfl) ?_
      have eg : gsGoing 7 (k : Int) near bh = [.str "jump"] ++ wn ++ [.int near, .bl false] := by
        unfold gsGoing
        rw [if_pos rfl, ek, hwn]
      rw [eg] at q
      refine ⟨line5 (by simp), fun p1 hp1 => ?_⟩
      have s2 : Same H1 (upd H1 p1 (.tup [.str "jump"])) := Same.add hp1
      have e2 : (upd H1 p1 (.tup [.str "jump"])) p1 = some (.tup [.str "jump"]) := upd_same
      generalize upd H1 p1 (.tup [.str "jump"]) = H2 at s2 e2 ⊢
      refine ⟨_, rfl, rcat (SqT.of e2) (Same.tup s2 hw) (by simp; omega) fun p2 H3 s3 h3 => ?_⟩
      refine ⟨_, rfl, line5 (by simp), fun p4 hp4 => ?_⟩
      have s4 : Same H3 (upd H3 p4 (.tup [.int near, .bl false])) := Same.add hp4
      have e4 : (upd H3 p4 (.tup [.int near, .bl false])) p4 = some (.tup [.int near, .bl false]) := upd_same
      generalize upd H3 p4 (.tup [.int near, .bl false]) = H4 at s4 e4 ⊢
      exact rcat (Same.tup s4 h3) (SqT.of e4) (by simp; omega) fun p5 H5 s5 h5 => q p5 H5 (Same.trans s1 (Same.trans s2 (Same.trans s3 (Same.trans s4 s5)))) h5
    refine cs_no (pev_no rfl fun z => c7 (V.int.inj z)) ?_
    by_cases c8 : form = 8
    · subst c8
      refine cs_yes (pev_yes rfl) ?_
      have eg : gsGoing 8 (k : Int) near bh = [.str "jump"] ++ wn ++ bh ++ [.bl true] := by
        unfold gsGoing
        rw [if_neg (by decide), if_pos rfl, ek, hwn]
      rw [eg] at q
      refine ⟨line5 (by simp), fun p1 hp1 => ?_⟩
      have s2 : Same H1 (upd H1 p1 (.tup [.str "jump"])) := Same.add hp1
      have e2 : (upd H1 p1 (.tup [.str "jump"])) p1 = some (.tup [.str "jump"]) := upd_same
      generalize upd H1 p1 (.tup [.str "jump"]) = H2 at s2 e2 ⊢
      refine ⟨_, rfl, rcat (SqT.of e2) (Same.tup s2 hw) (by simp; omega) fun p2 H3 s3 h3 => ?_⟩
      refine ⟨_, rfl, rcat h3 (Same.tup s3 (Same.tup s2 hb1)) (by simp; omega) fun p3 H4 s4 h4 => ?_⟩
      refine ⟨line5 (by simp), fun p4 hp4 => ?_⟩
      have s5 : Same H4 (upd H4 p4 (.tup [.bl true])) := Same.add hp4
      have e5 : (upd H4 p4 (.tup [.bl true])) p4 = some (.tup [.bl true]) := upd_same
      generalize upd H4 p4 (.tup [.bl true]) = H5 at s5 e5 ⊢
      exact rcat (Same.tup s5 h4) (SqT.of e5) (by simp; omega) fun p6 H6 s6 h6 => q p6 H6 (Same.trans s1 (Same.trans s2 (Same.trans s3 (Same.trans s4 (Same.trans s5 s6))))) h6
    refine cs_no (pev_no rfl fun z => c8 (V.int.inj z)) ?_
    by_cases c9 : form = 9
    · subst c9
      refine cs_yes (pev_yes rfl) ?_
      have eg : gsGoing 9 (k : Int) near bh = [.str "call", .int near, .bl false] := by
        unfold gsGoing
        rw [if_neg (by decide), if_neg (by decide), if_pos rfl]
      rw [eg] at q
      exact ⟨_, rfl, line5 (by simp), fun p1 hp1 => q p1 _ (Same.trans s1 (Same.add hp1)) (SqT.of upd_same)⟩
    refine cs_no (pev_no rfl fun z => c9 (V.int.inj z)) ?_
    by_cases ca : form = 10
    · subst ca
      refine cs_yes (pev_yes rfl) ?_
      have eg : gsGoing 10 (k : Int) near bh = [.str "call"] ++ bh ++ [.bl true] := by
        unfold gsGoing
        rw [if_neg (by decide), if_neg (by decide), if_neg (by decide), if_pos rfl]
      rw [eg] at q
      refine ⟨line5 (by simp), fun p1 hp1 => ?_⟩
      have s2 : Same H1 (upd H1 p1 (.tup [.str "call"])) := Same.add hp1
      have e2 : (upd H1 p1 (.tup [.str "call"])) p1 = some (.tup [.str "call"]) := upd_same
      generalize upd H1 p1 (.tup [.str "call"]) = H2 at s2 e2 ⊢
      refine ⟨_, rfl, rcat (SqT.of e2) (Same.tup s2 hb1) (by simp; omega) fun p2 H3 s3 h3 => ?_⟩
      refine ⟨line5 (by simp), fun p4 hp4 => ?_⟩
      have s4 : Same H3 (upd H3 p4 (.tup [.bl true])) := Same.add hp4
      have e4 : (upd H3 p4 (.tup [.bl true])) p4 = some (.tup [.bl true]) := upd_same
      generalize upd H3 p4 (.tup [.bl true]) = H4 at s4 e4 ⊢
      exact rcat (Same.tup s4 h3) (SqT.of e4) (by simp; omega) fun p5 H5 s5 h5 => q p5 H5 (Same.trans s1 (Same.trans s2 (Same.trans s3 (Same.trans s4 s5)))) h5
    refine cs_no (pev_no rfl fun z => ca (V.int.inj z)) (cs_yes pev_wild ?_)
    have eg : gsGoing form (k : Int) near bh = [] := by
      unfold gsGoing
      rw [if_neg c7, if_neg c8, if_neg c9, if_neg ca]
    rw [eg] at q
    exact ⟨line5 (by simp), fun p1 hp1 => q p1 _ (Same.trans s1 (Same.add hp1)) (SqT.of upd_same)⟩
abbrev KnGG (P : Program) (w : World) (K : PySem.W.Frag) (mg : Str → Option Value) (base : Heap) : Prop := Kn P w K mg base CX0 1 "guessed_going" ["form", "first", "near", "behind"] [] (spGGoing K)
def spGuess (K : PySem.W.Frag) : Sp := fun vs H Q _ => ∃ (t : Addr) (ws : List Int) (p : Nat) (x : Int), vs = [.ref t, .int (p : Nat)] ∧ SqT K H t (vInts ws) ∧ ws[p]? = some x ∧ 0 ≤ x ∧ x < 65536 ∧
  ∀ q H', Same H H' → SqT K H' q (gs x (p : Nat) (((vInts ws).drop (p + 1)).take 1)) → Q (.ref q) H'
abbrev N_guessed : List Str := ["words", "place", "word", "form", "first", "second"]
theorem sc_guessed : FnScope ["words", "place", "word", "form", "first", "second"] ["words", "place"] (defScope s_guessed) := ⟨rfl, rfl, rfl, by decide +kernel, rfl, by decide +kernel, by decide +kernel⟩
theorem ok_guess (F : FnP K "guessed" s_guessed dvs f fd) (C : Con w K mg odd) (k_signed : KnSi P w K mg base) (k_guessed_going : KnGG P w K mg base) : FnOk P w K mg base CX0 2 f fd ["words", "place"] (spGuess K) := by
  refine F.ok sc_guessed (fun vs H Q E h => ?_) (fun cdv A outer s H vs Q E hr h => ?_)
  · obtain ⟨t, ws, p, x, rfl, _⟩ := h
    rfl
  · obtain ⟨t, ws, p, x, rfl, hS, hx, x0, x1, q⟩ := h
    have g_SINGLES := C.g_SINGLES
    have g_SUMS := C.g_SUMS
    refine ⟨_, PSs.nox (pss_cons (ps_set (i := 2) sc_guessed.nd rfl (Or.inl rfl) (pe_ix ix_tup (pv 0) (pv 1) (fun _ _ => rfl)))
      (pss_cons (ps_par3 (i := 3) (j := 4) (l := 5) rfl sc_guessed.nd rfl rfl rfl (by decide) (by decide) (by decide) rfl rfl rfl (pa_cons (pe_op op_shr (pv 2) pe_int) (pa_cons (pe_op op_and (pe_op op_shr (pv 2) pe_int) pe_int) (pa_cons (pe_op op_and (pe_op op_shr (pv 2) pe_int) pe_int) pa_nil))) rfl)
      (pss_one (ps_match (pv 3) (pcs_cons sc_guessed.nd (pp_val pe_int) (pss_one (ps_ret (pe_op op_catA (pe_slice sl_tupA (pe_glob (v := .ref (He.ga K "SINGLES")) rfl g_SINGLES rfl) (po_some (pv 4)) (po_some (pe_op op_add (pv 4) pe_int))) (pe_ifExp (pt_cmpR op_gt (pv 4) pe_int (nomark _)) (pe_tup (pa_cons (pv 5) pa_nil)) (pe_tup pa_nil)))))
      (pcs_cons sc_guessed.nd (pp_val pe_int) (pss_one (ps_ret (pe_tup (pa_cons (pe_ix ix_tup (pe_glob (v := .ref (He.ga K "SUMS")) rfl g_SUMS rfl) (pe_op op_and (pv 2) pe_int) (fun _ _ => rfl)) (pa_cons (pv 4) (pa_cons (pv 5) (pa_cons (pe_op op_and (pe_op op_shr (pv 2) pe_int) pe_int) pa_nil)))))))
      (pcs_cons sc_guessed.nd (pp_val pe_int) (pss_one (ps_ret (pe_tup (pa_cons pe_str (pa_cons (pv 4) (pa_cons (pv 5) (pa_cons (pk k_signed hr (by decide) rfl pass0 (pa_cons (pe_op op_and (pv 2) pe_int) (pa_cons pe_int pa_nil))) pa_nil)))))))
      (pcs_cons sc_guessed.nd (pp_val pe_int) (pss_one (ps_ret (pe_tup (pa_cons pe_str (pa_cons (pv 4) (pa_cons (pe_op op_and (pv 2) pe_int) pa_nil))))))
      (pcs_cons sc_guessed.nd (pp_val pe_int) (pss_one (ps_ret (pe_tup (pa_cons pe_str (pa_cons (pv 4) (pa_cons (pe_op op_and (pv 2) pe_int) pa_nil))))))
      (pcs_cons sc_guessed.nd (pp_val pe_int) (pss_one (ps_ret (pe_tup (pa_cons pe_str (pa_cons (pv 4) (pa_cons (pv 5) (pa_cons (pe_op op_and (pv 2) pe_int) pa_nil)))))))
      (pcs_cons sc_guessed.nd (pp_val pe_int) (pss_one (ps_ret (pe_tup (pa_cons pe_str (pa_cons (pv 4) (pa_cons (pv 5) (pa_cons (pe_op op_and (pv 2) pe_int) pa_nil)))))))
      (pcs_cons sc_guessed.nd pp_wild (pss_one (ps_ret (pk k_guessed_going hr (by decide) rfl pass0 (pa_cons (pv 3) (pa_cons (pv 4) (pa_cons (pe_op op_add (pe_op op_add (pv 1) pe_int) (pk k_signed hr (by decide) rfl pass0 (pa_cons (pe_op op_and (pv 2) pe_int) (pa_cons pe_int pa_nil)))) (pa_cons (pe_slice sl_tupA (pv 0) (po_some (pe_op op_add (pv 1) pe_int)) (po_some (pe_op op_add (pv 1) pe_int))) pa_nil)))))))
      pcs_nil)))))))))))), ?_⟩
    have hxv : (vInts ws)[p]? = some (.int x) := by
      rw [vInts, List.getElem?_map, hx]
      rfl
    refine ⟨_, rfl, _, rfl, t, _, _, _, rfl, rfl, hS, atI_nat hxv, ?_⟩
    have E1 : x / 2 ^ (12 : Int).toNat = x / 4096 := rfl
    have E2 : Builtin.bitAnd (x / 2 ^ (9 : Int).toNat) 7 = x / 512 % 8 := bitAnd_m3 _
    have E3 : Builtin.bitAnd (x / 2 ^ (6 : Int).toNat) 7 = x / 64 % 8 := bitAnd_m3 _
    refine ⟨_, rfl, _, _, rfl, rfl, (show (0 : Int) ≤ 12 by decide), _, rfl, _, _, rfl, rfl, (show (0 : Int) ≤ 9 by decide), _, _, rfl, rfl, _, rfl, _, _, rfl, rfl, (show (0 : Int) ≤ 6 by decide), _, _, rfl, rfl, .int (x / 4096), .int (x / 512 % 8), .int (x / 64 % 8), list3 (congrArg V.int E1) (congrArg V.int E2) (congrArg V.int E3), ?_⟩
    have f8 : 0 ≤ x / 512 % 8 ∧ x / 512 % 8 < 8 := by omega
    have s8 : 0 ≤ x / 64 % 8 ∧ x / 64 % 8 < 8 := by omega
    have fm : 0 ≤ x / 4096 ∧ x / 4096 < 16 := by omega
    unfold gs at q
    generalize hfo : x / 4096 = form at fm q ⊢
    generalize hfi : x / 512 % 8 = fi at f8 q ⊢
    generalize hse : x / 64 % 8 = se at s8 q ⊢
    refine ⟨_, rfl, ?_⟩
    by_cases c0 : form = 0
    · subst c0
      refine cs_yes (pev_yes rfl) ?_
      rw [if_pos rfl] at q
      obtain ⟨k, rfl⟩ : ∃ k : Nat, fi = (k : Int) := ⟨fi.toNat, by omega⟩
      rw [Int.toNat_natCast] at q
      refine ⟨_, rfl, _, rfl, _, rfl, _, _, rfl, rfl, _, rfl, rsl (C.sg H).1 fun pw H1 s1 hw => ?_⟩
      rw [cut_one] at hw
      have lw : (((SG.map V.str).drop k).take 1).length ≤ 1 := by rw [List.length_take]; omega
      refine ⟨_, rfl, _, _, rfl, rfl, _, rfl, ?_⟩
      by_cases c2 : 2 < (k : Int)
      · rw [if_pos c2] at q
        rw [decide_eq_true c2]
        refine iteT ⟨_, rfl, line5 (by simp), fun p1 hp1 => ?_⟩
        have s2 : Same H1 (upd H1 p1 (.tup [.int se])) := Same.add hp1
        have e2 : (upd H1 p1 (.tup [.int se])) p1 = some (.tup [.int se]) := upd_same
        generalize upd H1 p1 (.tup [.int se]) = H2 at s2 e2 ⊢
        exact rcat (Same.tup s2 hw) (SqT.of e2) (by simp; omega) fun p5 H5 s5 h5 => q p5 H5 (Same.trans s1 (Same.trans s2 s5)) h5
      · rw [if_neg c2] at q
        rw [decide_eq_false c2]
        refine iteF ⟨line5 (by simp), fun p1 hp1 => ?_⟩
        have s2 : Same H1 (upd H1 p1 (.tup [])) := Same.add hp1
        have e2 : (upd H1 p1 (.tup [])) p1 = some (.tup []) := upd_same
        generalize upd H1 p1 (.tup []) = H2 at s2 e2 ⊢
        exact rcat (Same.tup s2 hw) (SqT.of e2) (by simp; omega) fun p5 H5 s5 h5 => q p5 H5 (Same.trans s1 (Same.trans s2 s5)) h5
    rw [if_neg c0] at q
    refine cs_no (pev_no rfl fun z => c0 (V.int.inj z)) ?_
    by_cases c1 : form = 1
    · subst c1
      refine cs_yes (pev_yes rfl) ?_
      rw [if_pos rfl] at q
      have E4 : Builtin.bitAnd (x / 2 ^ (3 : Int).toNat) 7 = x / 8 % 8 := bitAnd_m3 _
      rw [← E4] at q
      have hat : atI (SM.map V.str) (Builtin.bitAnd x 7) = some (.str (nm SM (x % 8).toNat)) := by
        rw [bitAnd_m3]
        have b8 : 0 ≤ x % 8 ∧ x % 8 < 8 := by omega
        generalize x % 8 = y at b8
        obtain ⟨k, rfl⟩ : ∃ k : Nat, y = (k : Int) := ⟨y.toNat, by omega⟩
        rw [Int.toNat_natCast]
        refine atI_nat ?_
        rw [List.getElem?_map, (sm_at k (by omega)).1]
        rfl
      exact ⟨_, rfl, _, _, rfl, rfl, _, _, _, _, rfl, rfl, (C.sm H).1, hat, _, rfl, _, rfl, _, rfl, _, _, rfl, rfl, (show (0 : Int) ≤ 3 by decide), _, _, rfl, rfl, line5 (by simp), fun p1 hp1 => q p1 _ (Same.add hp1) (SqT.of upd_same)⟩
    rw [if_neg c1] at q
    refine cs_no (pev_no rfl fun z => c1 (V.int.inj z)) ?_
    by_cases c2 : form = 2
    · subst c2
      refine cs_yes (pev_yes rfl) ?_
      rw [if_pos rfl] at q
      refine ⟨_, rfl, _, rfl, _, rfl, _, _, rfl, rfl, _, 32, rfl, line5 (by simp), fun p1 hp1 => ?_⟩
      rw [← bitAnd_m6 x] at q
      exact q p1 _ (Same.add hp1) (SqT.of upd_same)
    rw [if_neg c2] at q
    refine cs_no (pev_no rfl fun z => c2 (V.int.inj z)) ?_
    by_cases c3 : form = 3
    · subst c3
      refine cs_yes (pev_yes rfl) ?_
      rw [if_pos rfl] at q
      refine ⟨_, rfl, _, rfl, _, _, rfl, rfl, line5 (by simp), fun p1 hp1 => ?_⟩
      rw [← mask9 x] at q
      exact q p1 _ (Same.add hp1) (SqT.of upd_same)
    rw [if_neg c3] at q
    refine cs_no (pev_no rfl fun z => c3 (V.int.inj z)) ?_
    by_cases c4 : form = 4
    · subst c4
      refine cs_yes (pev_yes rfl) ?_
      rw [if_pos rfl] at q
      refine ⟨_, rfl, _, rfl, _, _, rfl, rfl, line5 (by simp), fun p1 hp1 => ?_⟩
      rw [← bitAnd_m7 x] at q
      exact q p1 _ (Same.add hp1) (SqT.of upd_same)
    rw [if_neg c4] at q
    refine cs_no (pev_no rfl fun z => c4 (V.int.inj z)) ?_
    by_cases c5 : form = 5
    · subst c5
      refine cs_yes (pev_yes rfl) ?_
      rw [if_pos rfl] at q
      refine ⟨_, rfl, _, rfl, _, rfl, _, _, rfl, rfl, line5 (by simp), fun p1 hp1 => ?_⟩
      rw [← bitAnd_m6 x] at q
      exact q p1 _ (Same.add hp1) (SqT.of upd_same)
    rw [if_neg c5] at q
    refine cs_no (pev_no rfl fun z => c5 (V.int.inj z)) ?_
    by_cases c6 : form = 6
    · subst c6
      refine cs_yes (pev_yes rfl) ?_
      rw [if_pos rfl] at q
      refine ⟨_, rfl, _, rfl, _, rfl, _, _, rfl, rfl, line5 (by simp), fun p1 hp1 => ?_⟩
      rw [← bitAnd_m6 x] at q
      exact q p1 _ (Same.add hp1) (SqT.of upd_same)
    rw [if_neg c6] at q
    refine cs_no (pev_no rfl fun z => c6 (V.int.inj z)) (cs_yes pev_wild ?_)
    rw [← bitAnd_m5 x] at q
    have ecut : cutV (vInts ws) (some ((p : Int) + 1)) (some ((p : Int) + 2)) = ((vInts ws).drop (p + 1)).take 1 := cut_one (k := p + 1)
    refine ⟨_, rfl, _, rfl, _, rfl, _, _, rfl, rfl, _, rfl, _, _, rfl, rfl, _, 16, rfl, _, _, rfl, rfl, _, rfl, _, rfl, _, _, rfl, rfl, _, rfl, _, rfl, _, _, rfl, rfl, _, rfl, rsl hS fun pb H1 s1 hb => ?_⟩
    rw [ecut] at hb
    exact ⟨form, fi, _, pb, _, rfl, hb, by rw [List.length_take]; omega, f8.1, f8.2, fun r H' s' h' => q r H' (Same.trans s1 s') h'⟩
end
end Bm
set_option maxHeartbeats 800000
namespace Bm
open PySem PySem.Spec PyProof.Rows L2
theorem sg_look : ∀ k, k < 7 → PT.lookup (nm SG k) = some (if k < 3 then ([] : List Str) else (["reg"] : List Str)) := by decide +kernel
theorem sm_look : ∀ k, k < 8 → PT.lookup (nm SM k) = some (["reg", "reg", "reg"] : List Str) := by decide +kernel
theorem tm_any : ∀ k, k < 7 → isTm (.str (nm TM k)) = true := by decide +kernel
theorem deedB_of {z : Str} {r : List V} {ks : List Str} (e : PT.lookup z = some ks) (hl : r.length = ks.length) (h : ((ks.zip r).all fun p => partB p.1 p.2) = true) : deedB (.str z :: r) = true := by
  show (match PT.lookup z with
    | some ks => decide (r.length = ks.length) && ((ks.zip r).all fun p => partB p.1 p.2)
    | none => false) = true
  rw [e]
  show (decide (r.length = ks.length) && ((ks.zip r).all fun p => partB p.1 p.2)) = true
  rw [decide_eq_true hl, Bool.true_and]
  exact h
theorem numB_of {i lo hi : Int} (h : lo ≤ i ∧ i ≤ hi) : numB (.int i) lo hi = true := by
  show (decide (lo ≤ i) && decide (i ≤ hi)) = true
  rw [decide_eq_true h.1, decide_eq_true h.2]
  rfl
theorem reg_of {i : Int} (h : r3 i) : partB "reg" (.int i) = true := numB_of h
theorem and_of {a b : Bool} (h1 : a = true) (h2 : b = true) : (a && b) = true := by rw [h1, h2]; rfl
theorem deed_vals {d : De} (h : d.ok) : deedB d.vals = true := by
  cases d with
  | sgl k =>
    have hk : k < 3 := h
    have e := sg_look k (Nat.lt_of_lt_of_le hk (by decide))
    rw [if_pos hk] at e
    exact deedB_of e rfl rfl
  | reg k a =>
    have e := sg_look k h.2.1
    rw [if_neg (by have := h.1; omega)] at e
    exact deedB_of e rfl (and_of (reg_of h.2.2) rfl)
  | sum k d a b => exact deedB_of (sm_look k h.1) rfl (and_of (reg_of h.2.1) (and_of (reg_of h.2.2.1) (and_of (reg_of h.2.2.2) rfl)))
  | plus d a n => exact deedB_of (pt_at _ (show (("plus", ["reg", "reg", "signed six"]) : Str × List Str) ∈ PT by decide +kernel)) rfl (and_of (reg_of h.1) (and_of (reg_of h.2.1) (and_of (numB_of h.2.2) rfl)))
  | set d n => exact deedB_of (pt_at _ (show (("set", ["reg", "nine"]) : Str × List Str) ∈ PT by decide +kernel)) rfl (and_of (reg_of h.1) (and_of (numB_of h.2) rfl))
  | high d n => exact deedB_of (pt_at _ (show (("high", ["reg", "seven"]) : Str × List Str) ∈ PT by decide +kernel)) rfl (and_of (reg_of h.1) (and_of (numB_of h.2) rfl))
  | load d a n => exact deedB_of (pt_at _ (show (("load", ["reg", "reg", "six"]) : Str × List Str) ∈ PT by decide +kernel)) rfl (and_of (reg_of h.1) (and_of (reg_of h.2.1) (and_of (numB_of h.2.2) rfl)))
  | store d a n => exact deedB_of (pt_at _ (show (("store", ["reg", "reg", "six"]) : Str × List Str) ∈ PT by decide +kernel)) rfl (and_of (reg_of h.1) (and_of (reg_of h.2.1) (and_of (numB_of h.2.2) rfl)))
  | jump k g f => exact deedB_of (pt_at _ (show (("jump", ["when", "goal", "far"]) : Str × List Str) ∈ PT by decide +kernel)) rfl (and_of (tm_any k h.1) (and_of (numB_of h.2) rfl))
  | call g f => exact deedB_of (pt_at _ (show (("call", ["goal", "far"]) : Str × List Str) ∈ PT by decide +kernel)) rfl (and_of (numB_of h) rfl)
theorem mem_look : ∀ {l : List (Str × List Str)} {z : Str} {ks : List Str}, l.lookup z = some ks → (z, ks) ∈ l := by
  intro l
  induction l with
  | nil => intro z ks h; cases h
  | cons p l ih =>
    obtain ⟨a, b⟩ := p
    intro z ks h
    rw [List.lookup_cons] at h
    by_cases c : z == a
    · rw [c] at h
      have e1 := eq_of_beq c
      have e2 : b = ks := Option.some.inj h
      rw [e1, ← e2]
      exact List.mem_cons_self ..
    · have c2 : (z == a) = false := by simpa using c
      rw [c2] at h
      exact List.mem_cons_of_mem _ (ih h)
theorem deed_name {z : Str} {r : List V} (h : deedB (.str z :: r) = true) : ∃ ks, (z, ks) ∈ PT := by
  have h : (match PT.lookup z with
    | some ks => decide (r.length = ks.length) && ((ks.zip r).all fun p => partB p.1 p.2)
    | none => false) = true := h
  cases e : PT.lookup z with
  | none => rw [e] at h; cases h
  | some ks => exact ⟨ks, mem_look e⟩
theorem vals_ok {K : PySem.W.Frag} {H : Hp} (d : De) : ∀ x ∈ d.vals, OkV K H x := by
  intro x hx
  cases d <;> (simp only [De.vals, List.mem_cons, List.not_mem_nil, or_false] at hx) <;> (first | (rcases hx with rfl | rfl | rfl | rfl) | (rcases hx with rfl | rfl | rfl) | (rcases hx with rfl | rfl) | (rcases hx with rfl)) <;> first | exact .str _ | exact .int _ | exact .bl _
/-! classes of errors -/
structure Ex1 (K : PySem.W.Frag) (mg : Str → Option Value) (x : Str) : Prop where
  g : mg x = some (.ref (He.ga K x))
  c : PySem.W.excIn K (He.ga K x) He.veBase "ValueError.__new__" = true
  e : PySem.W.keepIn K (.ref (He.ga K x)) = true
  b : PySem.W.subIn K (.ref (He.ga K x)) (.type "BaseException") = some true
  t : PySem.W.typeIn K (.ref (He.ga K x)) = some (.type "type")
end Bm
set_option maxHeartbeats 1600000
namespace Bm
open PySem PySem.Spec PyProof.Rows L2
/-! deeds are told apart by what they are told as -/
def De.code : De → Nat
  | .sgl _ => 0
  | .reg _ _ => 1
  | .sum _ _ _ _ => 2
  | .plus _ _ _ => 3
  | .set _ _ => 4
  | .high _ _ => 5
  | .load _ _ _ => 6
  | .store _ _ _ => 7
  | .jump _ _ _ => 8
  | .call _ _ => 9
def nameCode (z : Str) : Nat := if z ∈ SG.take 3 then 0 else if z ∈ SG then 1 else if z ∈ SM then 2 else if z = "plus" then 3 else if z = "set" then 4 else if z = "high" then 5 else if z = "load" then 6 else if z = "store" then 7 else if z = "jump" then 8 else 9
theorem sg_code : ∀ k, k < 7 → nameCode (nm SG k) = if k < 3 then 0 else 1 := by decide +kernel
theorem sm_code : ∀ k, k < 8 → nameCode (nm SM k) = 2 := by decide +kernel
theorem sg_inj : ∀ k, k < 7 → ∀ j, j < 7 → nm SG k = nm SG j → k = j := by decide +kernel
theorem sm_inj : ∀ k, k < 8 → ∀ j, j < 8 → nm SM k = nm SM j → k = j := by decide +kernel
theorem tm_inj : ∀ k, k < 7 → ∀ j, j < 7 → nm TM k = nm TM j → k = j := by decide +kernel
theorem vals_code {d : De} (h : d.ok) : ∃ z r, d.vals = .str z :: r ∧ nameCode z = d.code := by
  cases d with
  | sgl k =>
    have hk : k < 3 := h
    exact ⟨_, _, rfl, by rw [sg_code k (by omega), if_pos hk]; rfl⟩
  | reg k a => exact ⟨_, _, rfl, by rw [sg_code k h.2.1, if_neg (by have := h.1; omega)]; rfl⟩
  | sum k d a b => exact ⟨_, _, rfl, sm_code k h.1⟩
  | plus => exact ⟨_, _, rfl, (by decide +kernel : nameCode "plus" = 3)⟩
  | set => exact ⟨_, _, rfl, (by decide +kernel : nameCode "set" = 4)⟩
  | high => exact ⟨_, _, rfl, (by decide +kernel : nameCode "high" = 5)⟩
  | load => exact ⟨_, _, rfl, (by decide +kernel : nameCode "load" = 6)⟩
  | store => exact ⟨_, _, rfl, (by decide +kernel : nameCode "store" = 7)⟩
  | jump => exact ⟨_, _, rfl, (by decide +kernel : nameCode "jump" = 8)⟩
  | call => exact ⟨_, _, rfl, (by decide +kernel : nameCode "call" = 9)⟩
theorem vals_inj {d e : De} (hd : d.ok) (he : e.ok) (h : d.vals = e.vals) : d = e := by
  obtain ⟨z, r, e1, c1⟩ := vals_code hd
  obtain ⟨z', r', e2, c2⟩ := vals_code he
  have hz : z = z' := by
    rw [e1, e2] at h
    exact V.str.inj (List.cons.inj h).1
  subst hz
  have hc : d.code = e.code := c1.symm.trans c2
  clear e1 e2 c1 c2
  cases d <;> cases e <;> first | (simp [De.code] at hc; done) | skip
  all_goals clear hc
  all_goals simp only [De.vals, List.cons.injEq, V.str.injEq, V.int.injEq, V.bl.injEq, and_true, true_and] at h
  · rename_i k j
    rw [sg_inj k (Nat.lt_of_lt_of_le (show k < 3 from hd) (by decide)) j (Nat.lt_of_lt_of_le (show j < 3 from he) (by decide)) h]
  · rw [sg_inj _ hd.2.1 _ he.2.1 h.1, h.2]
  · rw [sm_inj _ hd.1 _ he.1 h.1, h.2.1, h.2.2.1, h.2.2.2]
  · rw [h.1, h.2.1, h.2.2]
  · rw [h.1, h.2]
  · rw [h.1, h.2]
  · rw [h.1, h.2.1, h.2.2]
  · rw [h.1, h.2.1, h.2.2]
  · rw [tm_inj _ hd.1 _ he.1 h.1, h.2.1, h.2.2]
  · rw [h.1, h.2]
/-- the deed that stands at a place -/
def IsAt (ws : List Int) (p : Nat) (d : De) : Prop := d.ok ∧ d.reached p ∧ (ws.drop p).take (d.words p).length = d.words p
theorem at_words {ws : List Int} {p : Nat} {d : De} {x : Int} (h : IsAt ws p d) (hx : ws[p]? = some x) : (∃ y, d.words p = [x, y] ∧ ws[p + 1]? = some y) ∨ d.words p = [x] := by
  obtain ⟨_, _, h⟩ := h
  have hp := (List.getElem?_eq_some_iff.mp hx)
  obtain ⟨hl, hxe⟩ := hp
  rw [List.drop_eq_getElem_cons hl, hxe] at h
  have two : ∀ a b, d.words p = [a, b] → (∃ y, d.words p = [x, y] ∧ ws[p + 1]? = some y) := fun a b e => by
    rw [e] at h
    cases hd : ws.drop (p + 1) with
    | nil => rw [hd] at h; cases h
    | cons y r =>
      rw [hd] at h
      have h : [x, y] = [a, b] := h
      refine ⟨y, by rw [e, h], ?_⟩
      have := congrArg (fun l : List Int => l[0]?) hd
      simpa using this
  have one : ∀ a, d.words p = [a] → d.words p = [x] := fun a e => by
    rw [e] at h
    have h : [x] = [a] := h
    rw [e, h]
  cases d with
  | jump k g f => cases f with
    | true => exact .inl (two _ _ rfl)
    | false => exact .inr (one _ rfl)
  | call g f => cases f with
    | true => exact .inl (two _ _ rfl)
    | false => exact .inr (one _ rfl)
  | _ => exact .inr (one _ rfl)
theorem deed_eq {z : Str} {r : List V} {ks : List Str} (e : PT.lookup z = some ks) : deedB (.str z :: r) = (decide (r.length = ks.length) && ((ks.zip r).all fun p => partB p.1 p.2)) := by
  show (match PT.lookup z with
    | some ks => decide (r.length = ks.length) && ((ks.zip r).all fun p => partB p.1 p.2)
    | none => false) = _
  rw [e]
theorem deed_no {z : Str} {r : List V} (e : PT.lookup z = none) : deedB (.str z :: r) = false := by
  show (match PT.lookup z with
    | some ks => decide (r.length = ks.length) && ((ks.zip r).all fun p => partB p.1 p.2)
    | none => false) = _
  rw [e]
theorem deed_len {z : Str} {r : List V} {ks : List Str} (e : PT.lookup z = some ks) (h : r.length ≠ ks.length) : deedB (.str z :: r) = false := by
  rw [deed_eq e, decide_eq_false h, Bool.false_and]
theorem look_jump : PT.lookup ("jump" : Str) = some (["when", "goal", "far"] : List Str) := by decide +kernel
theorem look_call : PT.lookup ("call" : Str) = some (["goal", "far"] : List Str) := by decide +kernel
theorem part_when (v : V) : partB "when" v = isTm v := if_pos rfl
theorem part_far (v : V) : partB "far" v = isBl v := (if_neg (by decide +kernel)).trans (if_pos rfl)
theorem part_goal (v : V) : partB "goal" v = numB v 0 65535 := by
  have e : ST.lookup ("goal" : Str) = some ((0, 65535) : Int × Int) := by decide +kernel
  unfold partB
  rw [if_neg (by decide +kernel), if_neg (by decide +kernel), e]
theorem jump3 (v0 v1 v2 : V) : deedB [.str "jump", v0, v1, v2] = (isTm v0 && (numB v1 0 65535 && isBl v2)) := by
  rw [deed_eq look_jump]
  show (true && (partB "when" v0 && (partB "goal" v1 && (partB "far" v2 && true)))) = _
  rw [part_when, part_goal, part_far, Bool.true_and, Bool.and_true]
theorem call2 (v1 v2 : V) : deedB [.str "call", v1, v2] = (numB v1 0 65535 && isBl v2) := by
  rw [deed_eq look_call]
  show (true && (partB "goal" v1 && (partB "far" v2 && true))) = _
  rw [part_goal, part_far, Bool.true_and, Bool.and_true]
theorem sg_one : ∀ k, k < 7 → ((SG.map V.str).drop k).take 1 = [.str (nm SG k)] := by decide +kernel
theorem tm_one : ∀ k, k < 7 → ((TM.map V.str).drop k).take 1 = [.str (nm TM k)] := by decide +kernel
theorem sg_seven : ((SG.map V.str).drop 7).take 1 = [] := by decide +kernel
theorem tm_seven : ((TM.map V.str).drop 7).take 1 = [] := by decide +kernel
theorem sgn_near (x p : Int) : near (p + 1 + sgn (x % 32) 16) p := by
  unfold near sgn
  split <;> omega
/-- what the guess may look like -/
inductive GsC (p : Int) (bh : List V) : List V → Prop
  | deed (d : De) : d.ok → d.goes = false → GsC p bh d.vals
  | num (s : Int) : GsC p bh [.int s]
  | jn (k : Nat) (g : Int) : k < 7 → near g p → GsC p bh [.str "jump", .str (nm TM k), .int g, .bl false]
  | jn7 (g : Int) : GsC p bh [.str "jump", .int g, .bl false]
  | jf (k : Nat) : k < 7 → GsC p bh (.str "jump" :: .str (nm TM k) :: (bh ++ [.bl true]))
  | jf7 : GsC p bh (.str "jump" :: (bh ++ [.bl true]))
  | cn (g : Int) : near g p → GsC p bh [.str "call", .int g, .bl false]
  | cf : GsC p bh (.str "call" :: (bh ++ [.bl true]))
  | nil : GsC p bh []
theorem gs_cases {x p : Int} {bh : List V} (x0 : 0 ≤ x) (x1 : x < 65536) : GsC p bh (gs x p bh) := by
  have f8 : 0 ≤ x / 512 % 8 ∧ x / 512 % 8 < 8 := by omega
  have s8 : r3 (x / 64 % 8) := by unfold r3; omega
  have d8 : r3 (x / 512 % 8) := by unfold r3; omega
  obtain ⟨k, hk⟩ : ∃ k : Nat, x / 512 % 8 = (k : Int) := ⟨(x / 512 % 8).toNat, by omega⟩
  have k8 : k < 8 := by omega
  unfold gs
  split
  · rw [hk, Int.toNat_natCast]
    by_cases h7 : k < 7
    · rw [sg_one k h7]
      by_cases h2 : 2 < (k : Int)
      · rw [if_pos h2]
        exact GsC.deed (.reg k (x / 64 % 8)) ⟨by omega, h7, s8⟩ rfl
      · rw [if_neg h2]
        exact GsC.deed (.sgl k) (show k < 3 by omega) rfl
    · have e7 : k = 7 := by omega
      subst e7
      rw [sg_seven, if_pos (by decide)]
      exact GsC.num _
  · split
    · exact GsC.deed (.sum (x % 8).toNat (x / 512 % 8) (x / 64 % 8) (x / 8 % 8)) ⟨by omega, d8, s8, by unfold r3; omega⟩ rfl
    · split
      · exact GsC.deed (.plus (x / 512 % 8) (x / 64 % 8) (sgn (x % 64) 32)) ⟨d8, s8, by unfold sgn; split <;> omega, by unfold sgn; split <;> omega⟩ rfl
      · split
        · exact GsC.deed (.set (x / 512 % 8) (x % 512)) ⟨d8, by omega, by omega⟩ rfl
        · split
          · exact GsC.deed (.high (x / 512 % 8) (x % 128)) ⟨d8, by omega, by omega⟩ rfl
          · split
            · exact GsC.deed (.load (x / 512 % 8) (x / 64 % 8) (x % 64)) ⟨d8, s8, by omega, by omega⟩ rfl
            · split
              · exact GsC.deed (.store (x / 512 % 8) (x / 64 % 8) (x % 64)) ⟨d8, s8, by omega, by omega⟩ rfl
              · unfold gsGoing
                rw [hk, Int.toNat_natCast]
                have hn := sgn_near x p
                generalize p + 1 + sgn (x % 32) 16 = g at hn
                split
                · by_cases h7 : k < 7
                  · rw [tm_one k h7]
                    exact GsC.jn k g h7 hn
                  · have e7 : k = 7 := by omega
                    subst e7
                    rw [tm_seven]
                    exact GsC.jn7 g
                · split
                  · by_cases h7 : k < 7
                    · rw [tm_one k h7]
                      exact GsC.jf k h7
                    · have e7 : k = 7 := by omega
                      subst e7
                      rw [tm_seven]
                      exact GsC.jf7
                  · split
                    · exact GsC.cn g hn
                    · split
                      · exact GsC.cf
                      · exact GsC.nil
theorem gs_ok {K : PySem.W.Frag} {H : Hp} {p : Int} {bh l : List V} (h : GsC p bh l) (hb : ∀ v ∈ bh, ∃ i, v = .int i) : ∀ v ∈ l, OkV K H v := by
  have ob : ∀ v ∈ bh ++ [.bl true], OkV K H v := fun v hv => by
    rcases List.mem_append.mp hv with hv | hv
    · obtain ⟨i, rfl⟩ := hb v hv
      exact .int i
    · rw [List.mem_singleton.mp hv]
      exact .bl true
  cases h with
  | deed d _ _ => exact vals_ok d
  | num s => intro v hv; rw [List.mem_singleton.mp hv]; exact .int s
  | jn k g _ _ => exact vals_ok (.jump k g false)
  | jn7 g =>
    intro v hv
    simp only [List.mem_cons, List.not_mem_nil, or_false] at hv
    rcases hv with rfl | rfl | rfl <;> first | exact .str _ | exact .int _ | exact .bl _
  | jf k _ =>
    intro v hv
    rcases List.mem_cons.mp hv with rfl | hv
    · exact .str _
    · rcases List.mem_cons.mp hv with rfl | hv
      · exact .str _
      · exact ob v hv
  | jf7 =>
    intro v hv
    rcases List.mem_cons.mp hv with rfl | hv
    · exact .str _
    · exact ob v hv
  | cn g _ => exact vals_ok (.call g false)
  | cf =>
    intro v hv
    rcases List.mem_cons.mp hv with rfl | hv
    · exact .str _
    · exact ob v hv
  | nil => intro v hv; cases hv
theorem gs_name {p : Int} {bh l : List V} (h : GsC p bh l) (z : Str) (r : List V) (e : l = .str z :: r) : ∃ ks, (z, ks) ∈ PT := by
  have jj : ∀ (y : Str), V.str y = V.str z → ∀ (ks : List Str), PT.lookup y = some ks → ∃ ks, (z, ks) ∈ PT := fun y ey ks hk => by
    rw [← V.str.inj ey]
    exact ⟨ks, mem_look hk⟩
  cases h with
  | deed d hd _ => exact deed_name (r := r) (by rw [← e]; exact deed_vals hd)
  | num s => cases e
  | jn k g _ _ => exact jj _ (List.cons.inj e).1 _ look_jump
  | jn7 g => exact jj _ (List.cons.inj e).1 _ look_jump
  | jf k _ => exact jj _ (List.cons.inj e).1 _ look_jump
  | jf7 => exact jj _ (List.cons.inj e).1 _ look_jump
  | cn g _ => exact jj _ (List.cons.inj e).1 _ look_call
  | cf => exact jj _ (List.cons.inj e).1 _ look_call
  | nil => cases e
theorem gs_deed {p : Int} {bh l : List V} (h : GsC p bh l) (hb : bh = [] ∨ ∃ y, bh = [.int y]) (hd : deedB l = true) : ∃ d : De, d.ok ∧ d.reached p ∧ l = d.vals := by
  have nl : ∀ {z : Str} {r : List V} {ks : List Str}, PT.lookup z = some ks → r.length ≠ ks.length → deedB (.str z :: r) = true → False := fun e n t => by
    rw [deed_len e n] at t
    cases t
  cases h with
  | deed d ok hg =>
    refine ⟨d, ok, ?_, rfl⟩
    cases d with
    | jump k g f => cases hg
    | call g f => cases hg
    | _ => exact True.intro
  | num s => cases hd
  | jn k g hk hn =>
    rw [jump3] at hd
    simp only [Bool.and_eq_true] at hd
    obtain ⟨i, e, h1, h2⟩ := numB_iff hd.2.1
    cases e
    exact ⟨.jump k g false, ⟨hk, h1, h2⟩, hn, rfl⟩
  | jn7 g => exact (nl look_jump (by simp) hd).elim
  | jf k hk =>
    rcases hb with rfl | ⟨y, rfl⟩
    · exact (nl look_jump (by simp) hd).elim
    · have hd : deedB [.str "jump", .str (nm TM k), .int y, .bl true] = true := hd
      rw [jump3] at hd
      simp only [Bool.and_eq_true] at hd
      obtain ⟨i, e, h1, h2⟩ := numB_iff hd.2.1
      cases e
      exact ⟨.jump k y true, ⟨hk, h1, h2⟩, True.intro, rfl⟩
  | jf7 =>
    rcases hb with rfl | ⟨y, rfl⟩
    · exact (nl look_jump (by simp) hd).elim
    · exact (nl look_jump (by simp) hd).elim
  | cn g hn =>
    rw [call2] at hd
    simp only [Bool.and_eq_true] at hd
    obtain ⟨i, e, h1, h2⟩ := numB_iff hd.1
    cases e
    exact ⟨.call g false, ⟨h1, h2⟩, hn, rfl⟩
  | cf =>
    rcases hb with rfl | ⟨y, rfl⟩
    · exact (nl look_call (by simp) hd).elim
    · have hd : deedB [.str "call", .int y, .bl true] = true := hd
      rw [call2] at hd
      simp only [Bool.and_eq_true] at hd
      obtain ⟨i, e, h1, h2⟩ := numB_iff hd.1
      cases e
      exact ⟨.call y true, ⟨h1, h2⟩, True.intro, rfl⟩
  | nil => cases hd
end Bm
set_option maxHeartbeats 1600000
namespace Bm
open PySem PySem.Spec PyProof.Rows L2
def behind (ws : List Int) (p : Nat) : List V := ((vInts ws).drop (p + 1)).take 1
theorem behind_at {ws : List Int} {p : Nat} {y : Int} (h : ws[p + 1]? = some y) : behind ws p = [.int y] := by
  obtain ⟨hl, e⟩ := List.getElem?_eq_some_iff.mp h
  unfold behind vInts
  rw [← List.map_drop, List.drop_eq_getElem_cons hl, e]
  rfl
theorem behind_is (ws : List Int) (p : Nat) : behind ws p = [] ∨ ∃ y, behind ws p = [.int y] := by
  cases h : ws[p + 1]? with
  | some y => exact .inr ⟨y, behind_at h⟩
  | none =>
    refine .inl ?_
    have := List.getElem?_eq_none_iff.mp h
    unfold behind vInts
    rw [← List.map_drop, List.drop_of_length_le this]
    rfl
theorem gs_at {ws : List Int} {p : Nat} {d : De} {x : Int} (h : IsAt ws p d) (hx : ws[p]? = some x) : gs x (p : Int) (behind ws p) = d.vals := by
  have hw := at_words h hx
  obtain ⟨ok, re, _⟩ := h
  have single : ∀ {w : Int}, d.words p = [w] → x = w := fun {w} e => by
    rcases hw with ⟨y, e2, _⟩ | e2
    · rw [e] at e2; cases e2
    · rw [e] at e2
      exact ((List.cons.inj e2).1).symm
  have double : ∀ {w g : Int}, d.words p = [w, g] → x = w ∧ behind ws p = [.int g] := fun {w g} e => by
    rcases hw with ⟨y, e2, e3⟩ | e2
    · rw [e] at e2
      obtain ⟨h1, h2⟩ := List.cons.inj e2
      have h2 := (List.cons.inj h2).1
      exact ⟨h1.symm, by rw [behind_at e3, h2]⟩
    · rw [e] at e2; cases e2
  have ff : ∀ {y : Int} {k : Nat}, y = (k : Int) → y.toNat = k := fun e => by rw [e]; exact Int.toNat_natCast _
  cases d with
  | sgl k =>
    have hk : k < 3 := ok
    have e : x = (k : Int) * 512 := single rfl
    unfold gs
    rw [if_pos (by omega), ff (k := k) (by omega), sg_one k (by omega), if_neg (by omega)]
    rfl
  | reg k a =>
    obtain ⟨k3, k7, ha⟩ := ok
    have ha : 0 ≤ a ∧ a ≤ 7 := ha
    have e : x = (k : Int) * 512 + a * 64 := single rfl
    unfold gs
    rw [if_pos (by omega), ff (k := k) (by omega), sg_one k (by omega), if_pos (by omega), show x / 64 % 8 = a by omega]
    rfl
  | sum k d a b =>
    obtain ⟨hk, hd, ha, hb⟩ := ok
    have hd : 0 ≤ d ∧ d ≤ 7 := hd
    have ha : 0 ≤ a ∧ a ≤ 7 := ha
    have hb : 0 ≤ b ∧ b ≤ 7 := hb
    have e : x = 4096 + d * 512 + a * 64 + b * 8 + (k : Int) := single rfl
    unfold gs
    rw [if_neg (by omega), if_pos (by omega), ff (k := k) (by omega), show x / 512 % 8 = d by omega, show x / 64 % 8 = a by omega, show x / 8 % 8 = b by omega]
    rfl
  | plus d a n =>
    obtain ⟨hd, ha, hn⟩ := ok
    have hd : 0 ≤ d ∧ d ≤ 7 := hd
    have ha : 0 ≤ a ∧ a ≤ 7 := ha
    have e : x = 8192 + d * 512 + a * 64 + n % 64 := single rfl
    have en : sgn (x % 64) 32 = n := by
      unfold sgn
      split <;> omega
    unfold gs
    rw [if_neg (by omega), if_neg (by omega), if_pos (by omega), show x / 512 % 8 = d by omega, show x / 64 % 8 = a by omega, en]
    rfl
  | set d n =>
    obtain ⟨hd, hn⟩ := ok
    have hd : 0 ≤ d ∧ d ≤ 7 := hd
    have e : x = 12288 + d * 512 + n := single rfl
    unfold gs
    rw [if_neg (by omega), if_neg (by omega), if_neg (by omega), if_pos (by omega), show x / 512 % 8 = d by omega, show x % 512 = n by omega]
    rfl
  | high d n =>
    obtain ⟨hd, hn⟩ := ok
    have hd : 0 ≤ d ∧ d ≤ 7 := hd
    have e : x = 16384 + d * 512 + n := single rfl
    unfold gs
    rw [if_neg (by omega), if_neg (by omega), if_neg (by omega), if_neg (by omega), if_pos (by omega), show x / 512 % 8 = d by omega, show x % 128 = n by omega]
    rfl
  | load d a n =>
    obtain ⟨hd, ha, hn⟩ := ok
    have hd : 0 ≤ d ∧ d ≤ 7 := hd
    have ha : 0 ≤ a ∧ a ≤ 7 := ha
    have e : x = 20480 + d * 512 + a * 64 + n := single rfl
    unfold gs
    rw [if_neg (by omega), if_neg (by omega), if_neg (by omega), if_neg (by omega), if_neg (by omega), if_pos (by omega), show x / 512 % 8 = d by omega, show x / 64 % 8 = a by omega, show x % 64 = n by omega]
    rfl
  | store d a n =>
    obtain ⟨hd, ha, hn⟩ := ok
    have hd : 0 ≤ d ∧ d ≤ 7 := hd
    have ha : 0 ≤ a ∧ a ≤ 7 := ha
    have e : x = 24576 + d * 512 + a * 64 + n := single rfl
    unfold gs
    rw [if_neg (by omega), if_neg (by omega), if_neg (by omega), if_neg (by omega), if_neg (by omega), if_neg (by omega), if_pos (by omega), show x / 512 % 8 = d by omega, show x / 64 % 8 = a by omega, show x % 64 = n by omega]
    rfl
  | jump k g f =>
    obtain ⟨hk, hg⟩ := ok
    cases f with
    | true =>
      obtain ⟨e, eb⟩ := double (w := 32768 + (k : Int) * 512) (g := g) rfl
      unfold gs gsGoing
      rw [if_neg (by omega), if_neg (by omega), if_neg (by omega), if_neg (by omega), if_neg (by omega), if_neg (by omega), if_neg (by omega), if_neg (by omega), if_pos (by omega), ff (k := k) (by omega), tm_one k hk, eb]
      rfl
    | false =>
      have re : near g p := re
      unfold near at re
      have e : x = 28672 + (k : Int) * 512 + (g - p - 1) % 32 := single rfl
      have en : (p : Int) + 1 + sgn (x % 32) 16 = g := by
        unfold sgn
        split <;> omega
      unfold gs gsGoing
      rw [if_neg (by omega), if_neg (by omega), if_neg (by omega), if_neg (by omega), if_neg (by omega), if_neg (by omega), if_neg (by omega), if_pos (by omega), ff (k := k) (by omega), tm_one k hk, en]
      rfl
  | call g f =>
    have hg : 0 ≤ g ∧ g ≤ 65535 := ok
    cases f with
    | true =>
      obtain ⟨e, eb⟩ := double (w := 40960) (g := g) rfl
      unfold gs gsGoing
      rw [if_neg (by omega), if_neg (by omega), if_neg (by omega), if_neg (by omega), if_neg (by omega), if_neg (by omega), if_neg (by omega), if_neg (by omega), if_neg (by omega), if_neg (by omega), if_pos (by omega), eb]
      rfl
    | false =>
      have re : near g p := re
      unfold near at re
      have e : x = 36864 + (g - p - 1) % 32 := single rfl
      have en : (p : Int) + 1 + sgn (x % 32) 16 = g := by
        unfold sgn
        split <;> omega
      unfold gs gsGoing
      rw [if_neg (by omega), if_neg (by omega), if_neg (by omega), if_neg (by omega), if_neg (by omega), if_neg (by omega), if_neg (by omega), if_neg (by omega), if_neg (by omega), if_pos (by omega), en]
      rfl
theorem cut_span {xs : List V} {k n : Nat} : cutV xs (some (k : Int)) (some ((k : Int) + (n : Int))) = (xs.drop k).take n := by
  have e : ((k : Int) + (n : Int)) = ((k + n : Nat) : Int) := by omega
  unfold cutV
  rw [e, HT.sIx_nat, HT.sIx_nat]
  by_cases h : k + n ≤ xs.length
  · rw [Nat.min_eq_left (show k ≤ xs.length by omega), Nat.min_eq_left h]
    congr 1
    omega
  · rw [Nat.min_eq_right (Nat.le_of_lt (Nat.lt_of_not_le h))]
    by_cases h2 : k ≤ xs.length
    · rw [Nat.min_eq_left h2, List.take_of_length_le (by rw [List.length_drop]; omega), List.take_of_length_le (by rw [List.length_drop]; omega)]
    · rw [Nat.min_eq_right (by omega), List.drop_of_length_le (Nat.le_refl _), List.drop_of_length_le (Nat.le_of_lt (Nat.lt_of_not_le h2))]
      simp
theorem ints_lay : ∀ l : List Int, PyData.canLayAll0 (l.map PyData.int) = true ∧ PyData.depthAll (l.map PyData.int) = 0
  | [] => by simp [PyData.canLayAll0, PyData.depthAll]
  | x :: l => by
    obtain ⟨h1, h2⟩ := ints_lay l
    simp [PyData.canLayAll0, PyData.depthAll, PyData.canLay0, PyData.depth, h1, h2]
theorem ints_shaped (l : List Int) : SeqAt.shaped (.tuple (l.map PyData.int)) = true := by
  obtain ⟨h1, h2⟩ := ints_lay l
  unfold SeqAt.shaped
  simp only [PyData.canLay0, PyData.depth, h1, h2, Bool.true_and]
  decide
theorem ints_eqv : ∀ a b : List Int, PyData.eqvAll (a.map PyData.int) (b.map PyData.int) = decide (a = b)
  | [], [] => by simp [PyData.eqvAll]
  | [], _ :: _ => by simp [PyData.eqvAll]
  | _ :: _, [] => by simp [PyData.eqvAll]
  | x :: a, y :: b => by
    simp only [List.map_cons, PyData.eqvAll, PyData.eqv, ints_eqv a b]
    by_cases h : x = y
    · subst h
      simp
    · simp [h]
theorem dp_ints {K : PySem.W.Frag} {H : Hp} : ∀ l : List Int, DpAll K H (vInts l) (l.map PyData.int)
  | [] => .nil
  | x :: l => .cons (.int x) (dp_ints l)
section
variable {P : Program} {w : World} {K : PySem.W.Frag} {mg : Str → Option Value} {base : Heap} {f : Addr} {fd : FuncData} {dvs : List V} {odd : List Str}
abbrev KnGs (P : Program) (w : World) (K : PySem.W.Frag) (mg : Str → Option Value) (base : Heap) : Prop := Kn P w K mg base CX0 2 "guessed" ["words", "place"] [] (spGuess K)
def spAt (K : PySem.W.Frag) : Sp := fun vs H Q _ => ∃ (t : Addr) (ws : List Int) (p : Nat) (x : Int), vs = [.ref t, .int (p : Nat)] ∧ SqT K H t (vInts ws) ∧ ws[p]? = some x ∧ 0 ≤ x ∧ x < 65536 ∧
  (∀ d r pd H', IsAt ws p d → Same H H' → SqT K H' pd d.vals → SqT K H' r [.ref pd, .int ((d.words p).length : Nat)] → Q (.ref r) H') ∧ ((∀ d, ¬ IsAt ws p d) → ∀ H', Same H H' → Q .non H')
abbrev N_deed_at : List Str := ["words", "place", "deed", "meant"]
theorem sc_deed_at : FnScope ["words", "place", "deed", "meant"] ["words", "place"] (defScope s_deed_at) := ⟨rfl, rfl, rfl, by decide +kernel, rfl, by decide +kernel, by decide +kernel⟩
theorem ok_at (F : FnP K "deed_at" s_deed_at dvs f fd) (k_guessed : KnGs P w K mg base) (k_is_deed : Kn P w K mg base CX0 3 "is_deed" ["thing"] [] (spDeed K odd)) (k_words_of : Kn P w K mg base CX0 3 "words_of" ["deed", "place"] [] (spWordsOf K)) (g_len : mg "len" = none) :
    FnOk P w K mg base CX0 4 f fd ["words", "place"] (spAt K) := by
  refine F.ok sc_deed_at (fun vs H Q E h => ?_) (fun cdv A outer s H vs Q E hr h => ?_)
  · obtain ⟨t, ws, p, x, rfl, _⟩ := h
    rfl
  · obtain ⟨t, ws, p, x, rfl, hS, hx, x0, x1, q1, q2⟩ := h
    refine ⟨_, PSs.nox (pss_cons (ps_set (i := 2) sc_deed_at.nd rfl (Or.inl rfl) (pk k_guessed hr (by decide) rfl pass0 (pa_cons (pv 0) (pa_cons (pv 1) pa_nil))))
      (pss_cons (ps_if (pt_not (pt_val (pk k_is_deed hr (by decide) rfl pass0 (pa_cons (pv 2) pa_nil)))) (pss_one (ps_ret pe_non)) pss_nil)
      (pss_cons (ps_set (i := 3) sc_deed_at.nd rfl (Or.inl rfl) (pk k_words_of hr (by decide) rfl pass0 (pa_cons (pv 2) (pa_cons (pv 1) pa_nil))))
      (pss_cons (ps_if (pt_cmpR (op_neD hr.units) (pe_slice sl_tupA (pv 0) (po_some (pv 1)) (po_some (pe_op op_add (pv 1) (pe_callB call_len rfl g_len boot_len (pa_cons (pv 3) pa_nil))))) (pv 3) (nomark _)) (pss_one (ps_ret pe_non)) pss_nil)
      (pss_one (ps_ret (pe_tup (pa_cons (pv 2) (pa_cons (pe_callB call_len rfl g_len boot_len (pa_cons (pv 3) pa_nil)) pa_nil))))))))), ?_⟩
    refine ⟨_, rfl, _, rfl, t, ws, p, x, rfl, hS, hx, x0, x1, fun a H1 s1 ha => ?_⟩
    have hgc : GsC (p : Int) (behind ws p) (gs x p (behind ws p)) := gs_cases x0 x1
    have hbi := behind_is ws p
    have hbv : ∀ v ∈ behind ws p, ∃ i, v = .int i := fun v hv => by
      rcases hbi with e | ⟨y, e⟩
      · rw [e] at hv; cases hv
      · rw [e] at hv
        exact ⟨y, List.mem_singleton.mp hv⟩
    have ha : SqT K H1 a (gs x p (behind ws p)) := ha
    refine ⟨_, rfl, a, _, rfl, ha, gs_ok hgc hbv, fun z r e => .inl (gs_name hgc z r e), fun H2 s2 => ⟨_, rfl, ?_⟩⟩
    cases hb : deedB (gs x p (behind ws p)) with
    | false =>
      refine iteT (q2 (fun d hd => ?_) H2 (Same.trans s1 s2))
      rw [gs_at hd hx, deed_vals hd.1] at hb
      cases hb
    | true =>
      obtain ⟨d, dok, dre, de⟩ := gs_deed hgc hbi hb
      rw [de] at ha
      refine iteF ⟨_, rfl, _, rfl, a, d, p, rfl, Same.tup s2 ha, dok, fun _ m H3 s3 hm => ?_, fun n => absurd dre n⟩
      have s13 := Same.trans s1 (Same.trans s2 s3)
      have ecut : cutV (vInts ws) (some (p : Int)) (some ((p : Int) + (((vInts (d.words p)).length : Nat) : Int))) = vInts ((ws.drop p).take (d.words p).length) := by
        rw [cut_span]
        unfold vInts
        rw [List.length_map, ← List.map_drop, ← List.map_take]
      refine ⟨_, rfl, _, rfl, _, rfl, _, rfl, _, rfl, _, _, rfl, .inr ⟨_, SqT.of hm, rfl⟩, _, _, rfl, rfl, _, rfl, rsl (Same.tup s13 hS) fun ps H4 s4 hs => ?_⟩
      rw [ecut] at hs
      refine ⟨_, rfl, _, _, .tup hs (dp_ints _), .tup (SqT.of (s4 _ _ hm)) (dp_ints _), ints_shaped _, ints_shaped _, _, rfl, ?_⟩
      have ee : PyData.eqv (.tuple (((ws.drop p).take (d.words p).length).map PyData.int)) (.tuple ((d.words p).map PyData.int)) = decide ((ws.drop p).take (d.words p).length = d.words p) := by
        rw [← ints_eqv]
        simp [PyData.eqv]
      rw [ee]
      by_cases hw : (ws.drop p).take (d.words p).length = d.words p
      · rw [decide_eq_true hw]
        refine iteF ⟨_, rfl, _, rfl, _, _, rfl, .inr ⟨_, SqT.of (s4 _ _ hm), rfl⟩, line5 (by simp), fun r hr2 => ?_⟩
        have s5 := Same.add (o := .tup [.ref a, .int (((vInts (d.words p)).length : Nat) : Int)]) hr2
        refine q1 d r a _ ⟨dok, dre, hw⟩ (Same.trans s13 (Same.trans s4 s5)) (Same.tup (Same.trans s2 (Same.trans s3 (Same.trans s4 s5))) ha) ?_
        have el : (vInts (d.words p)).length = (d.words p).length := List.length_map ..
        rw [← el]
        exact SqT.of upd_same
      · rw [decide_eq_false hw]
        refine iteT (q2 (fun d2 hd2 => ?_) _ (Same.trans s13 s4))
        have e2 := gs_at hd2 hx
        rw [de] at e2
        have := vals_inj dok hd2.1 e2
        subst this
        exact hw hd2.2.2
end
end Bm
set_option maxHeartbeats 800000
namespace Bm
open PySem PySem.Spec PyProof.Rows L2
theorem at_lt {ws : List Int} {p : Nat} {d : De} (h : IsAt ws p d) : p < ws.length ∧ p + (d.words p).length ≤ ws.length ∧ 1 ≤ (d.words p).length := by
  obtain ⟨_, _, h⟩ := h
  have h1 : 1 ≤ (d.words p).length := by
    cases d with
    | jump k g f => cases f <;> exact Nat.succ_pos _
    | call g f => cases f <;> exact Nat.succ_pos _
    | _ => exact Nat.succ_pos _
  have h2 := congrArg List.length h
  rw [List.length_take, List.length_drop] at h2
  omega
theorem at_uniq {ws : List Int} {p : Nat} {d e : De} (h : IsAt ws p d) (g : IsAt ws p e) : d = e := by
  have hx := List.getElem?_eq_getElem (at_lt h).1
  exact vals_inj h.1 g.1 ((gs_at h hx).symm.trans (gs_at g hx))
open Classical in
/-- the deed at a place, if there is one -/
noncomputable def atD (ws : List Int) (p : Nat) : Option De := if h : ∃ d, IsAt ws p d then some h.choose else none
theorem atD_some {ws : List Int} {p : Nat} {d : De} (h : IsAt ws p d) : atD ws p = some d := by
  unfold atD
  rw [dif_pos ⟨d, h⟩]
  exact congrArg some (at_uniq (Exists.choose_spec (⟨d, h⟩ : ∃ d, IsAt ws p d)) h)
theorem atD_none {ws : List Int} {p : Nat} (h : ∀ d, ¬ IsAt ws p d) : atD ws p = none := by
  unfold atD
  exact dif_neg fun ⟨d, z⟩ => h d z
theorem atD_is {ws : List Int} {p : Nat} {d : De} (h : atD ws p = some d) : IsAt ws p d := by
  unfold atD at h
  split at h
  · rename_i z
    rw [← Option.some.inj h]
    exact z.choose_spec
  · cases h
def sizeO (p : Nat) : Option De → Nat
  | none => 1
  | some d => (d.words p).length
/-- what a sweep from the first word on has met in so many turns -/
noncomputable def sw (ws : List Int) : Nat → Nat × List (Nat × Option De)
  | 0 => (0, [])
  | n + 1 => if (sw ws n).1 < ws.length then ((sw ws n).1 + sizeO (sw ws n).1 (atD ws (sw ws n).1), (sw ws n).2 ++ [((sw ws n).1, atD ws (sw ws n).1)]) else sw ws n
theorem sw_succ (ws : List Int) (n : Nat) : sw ws (n + 1) = if (sw ws n).1 < ws.length then ((sw ws n).1 + sizeO (sw ws n).1 (atD ws (sw ws n).1), (sw ws n).2 ++ [((sw ws n).1, atD ws (sw ws n).1)]) else sw ws n := rfl
theorem sizeO_fit {ws : List Int} {p : Nat} (h : p < ws.length) : 1 ≤ sizeO p (atD ws p) ∧ p + sizeO p (atD ws p) ≤ ws.length := by
  cases e : atD ws p with
  | none => exact ⟨Nat.le_refl _, h⟩
  | some d =>
    have := at_lt (atD_is e)
    exact ⟨this.2.2, this.2.1⟩
theorem sw_le (ws : List Int) : ∀ n, (sw ws n).1 ≤ ws.length ∧ (sw ws n).2.length ≤ n ∧ (n ≤ (sw ws n).1 ∨ (sw ws n).1 = ws.length)
  | 0 => ⟨Nat.zero_le _, Nat.zero_le _, .inl (Nat.zero_le _)⟩
  | n + 1 => by
    obtain ⟨h1, h2, h3⟩ := sw_le ws n
    unfold sw
    by_cases c : (sw ws n).1 < ws.length
    · rw [if_pos c]
      have := sizeO_fit c
      refine ⟨this.2, by rw [List.length_append]; simp only [List.length_singleton]; omega, .inl ?_⟩
      show n + 1 ≤ (sw ws n).1 + _
      omega
    · rw [if_neg c]
      exact ⟨h1, by omega, .inr (by omega)⟩
theorem sw_stay {ws : List Int} {n : Nat} (h : ¬ (sw ws n).1 < ws.length) : ∀ m, sw ws (n + m) = sw ws n
  | 0 => rfl
  | m + 1 => by
    show sw ws (n + m + 1) = _
    rw [sw_succ, sw_stay h m, if_neg h]
noncomputable def met (ws : List Int) : List (Nat × Option De) := (sw ws ws.length).2
theorem sw_end {ws : List Int} {n : Nat} (h : ¬ (sw ws n).1 < ws.length) : (sw ws n).2 = met ws := by
  have hl : ¬ (sw ws ws.length).1 < ws.length := by
    have := (sw_le ws ws.length).2.2
    omega
  unfold met
  cases Nat.le_total n ws.length with
  | inl q =>
    have := sw_stay h (ws.length - n)
    rw [Nat.add_sub_cancel' q] at this
    rw [this]
  | inr q =>
    have := sw_stay hl (n - ws.length)
    rw [Nat.add_sub_cancel' q] at this
    rw [this]
theorem met_len (ws : List Int) : (met ws).length ≤ ws.length := (sw_le ws _).2.1
/-- a deed, or none, as a value -/
def VD (K : PySem.W.Frag) (H : Hp) (v : V) : Option De → Prop
  | none => v = .non
  | some d => ∃ pd, v = .ref pd ∧ SqT K H pd d.vals
theorem VD.map {K : PySem.W.Frag} {H H' : Hp} {v : V} {o : Option De} (f : ∀ a xs, SqT K H a xs → SqT K H' a xs) (h : VD K H v o) : VD K H' v o := by
  cases o with
  | none => exact h
  | some d =>
    obtain ⟨pd, e, h⟩ := h
    exact ⟨pd, e, f _ _ h⟩
/-- what was met, as rows of three -/
inductive MetV (K : PySem.W.Frag) (H : Hp) : List V → List (Nat × Option De) → Prop
  | nil : MetV K H [] []
  | cons {r : Addr} {v : V} {p : Nat} {o : Option De} {vs : List V} {ms : List (Nat × Option De)} : SqT K H r [.int (p : Nat), v, .int (sizeO p o : Nat)] → VD K H v o → MetV K H vs ms → MetV K H (.ref r :: vs) ((p, o) :: ms)
theorem MetV.map {K : PySem.W.Frag} {H H' : Hp} (f : ∀ a xs, SqT K H a xs → SqT K H' a xs) : ∀ {vs : List V} {ms : List (Nat × Option De)}, MetV K H vs ms → MetV K H' vs ms
  | _, _, .nil => .nil
  | _, _, .cons h d t => .cons (f _ _ h) (d.map f) (t.map f)
theorem MetV.snoc {K : PySem.W.Frag} {H : Hp} {r : Addr} {v : V} {p : Nat} {o : Option De} (h : SqT K H r [.int (p : Nat), v, .int (sizeO p o : Nat)]) (hd : VD K H v o) : ∀ {vs : List V} {ms : List (Nat × Option De)}, MetV K H vs ms → MetV K H (vs ++ [.ref r]) (ms ++ [(p, o)])
  | _, _, .nil => .cons h hd .nil
  | _, _, .cons a b c => .cons a b (MetV.snoc h hd c)
theorem MetV.len {K : PySem.W.Frag} {H : Hp} : ∀ {vs : List V} {ms : List (Nat × Option De)}, MetV K H vs ms → vs.length = ms.length
  | _, _, .nil => rfl
  | _, _, .cons _ _ t => congrArg Nat.succ t.len
theorem MetV.at_ {K : PySem.W.Frag} {H : Hp} : ∀ {vs : List V} {ms : List (Nat × Option De)} {i : Nat} {x : V}, MetV K H vs ms → vs[i]? = some x → ∃ r v p o, x = .ref r ∧ ms[i]? = some (p, o) ∧ SqT K H r [.int (p : Nat), v, .int (sizeO p o : Nat)] ∧ VD K H v o
  | _, _, i, x, .nil, h => by simp at h
  | _, _, 0, x, .cons (r := r) (v := v) (p := p) (o := o) h1 h2 _, h => ⟨r, v, p, o, (Option.some.inj h).symm, rfl, h1, h2⟩
  | _, _, i + 1, x, .cons _ _ h2, h => MetV.at_ (i := i) h2 h
theorem tup_put2 {K : PySem.W.Frag} {H : Hp} {D a : Addr} {rs xs : List V} {o : HO} (hD : H D = some (.lst rs)) (h : SqT K H a xs) : SqT K (upd H D o) a xs := by
  have n : ∀ {u}, H a = some u → (∀ l, u ≠ .lst l) → a ≠ D := fun e q z => by
    rw [z, hD] at e
    exact q _ (Option.some.inj e).symm
  rcases h with (h | ⟨u, h⟩) | h
  · exact .inl (.inl (by rw [upd_ne (n h (fun l z => by cases z))]; exact h))
  · exact .inl (.inr ⟨u, by rw [upd_ne (n h (fun l z => by cases z))]; exact h⟩)
  · exact .inr h
theorem line_lt' {n : Nat} (h : n < 100000) : n < sizeLine := Nat.lt_of_lt_of_le h (by decide)
theorem sw_more {ws : List Int} : ∀ n, (sw ws n).2.length ≤ (sw ws n).1
  | 0 => Nat.le_refl _
  | n + 1 => by
    have ih := @sw_more ws n
    rw [sw_succ]
    by_cases c : (sw ws n).1 < ws.length
    · rw [if_pos c, List.length_append]
      have := sizeO_fit c
      show (sw ws n).2.length + 1 ≤ (sw ws n).1 + _
      omega
    · rw [if_neg c]
      exact ih
theorem sw_short {ws : List Int} {n : Nat} (hl : ws.length ≤ 300) (c : (sw ws n).1 < ws.length) : (sw ws n).2.length < 100000 := by
  have := @sw_more ws n
  omega
section
variable {P : Program} {w : World} {K : PySem.W.Frag} {mg : Str → Option Value} {base : Heap} {f : Addr} {fd : FuncData} {dvs : List V}
abbrev KnAt (P : Program) (w : World) (K : PySem.W.Frag) (mg : Str → Option Value) (base : Heap) : Prop := Kn P w K mg base CX0 4 "deed_at" ["words", "place"] [] (spAt K)
def wsOk (ws : List Int) : Prop := ∀ x ∈ ws, 0 ≤ x ∧ x < 65536
def spMet (K : PySem.W.Frag) : Sp := fun vs H Q _ => ∃ (t : Addr) (ws : List Int), vs = [.ref t] ∧ SqT K H t (vInts ws) ∧ ws.length ≤ 300 ∧ wsOk ws ∧ ∀ D rs H', Same H H' → H D = none → H' D = some (.lst rs) → MetV K H' rs (met ws) → Q (.ref D) H'
abbrev N_deeds_met : List Str := ["words", "met", "place", "found", "deed", "many"]
theorem sc_deeds_met : FnScope ["words", "met", "place", "found", "deed", "many"] ["words"] (defScope s_deeds_met) := ⟨rfl, rfl, rfl, by decide +kernel, rfl, by decide +kernel, by decide +kernel⟩
theorem ok_met (F : FnP K "deeds_met" s_deeds_met dvs f fd) (k_deed_at : KnAt P w K mg base) (g_len : mg "len" = none) : FnOk P w K mg base CX0 5 f fd ["words"] (spMet K) := by
  refine F.ok sc_deeds_met (fun vs H Q E h => ?_) (fun cdv A outer s H vs Q E hr h => ?_)
  · obtain ⟨t, ws, rfl, _⟩ := h
    rfl
  · obtain ⟨t, ws, rfl, hS, hl, hw, q⟩ := h
    refine ⟨_, PSs.nox (pss_cons (ps_set (i := 1) sc_deeds_met.nd rfl (Or.inl rfl) (pe_lst pa_nil))
      (pss_cons (ps_set (i := 2) sc_deeds_met.nd rfl (Or.inl rfl) pe_int)
      (pss_cons (ps_while PassesOwn.never (pt_cmpR op_lt (pv 2) (pe_callB call_len rfl g_len boot_len (pa_cons (pv 0) pa_nil)) (nomark _)) (pss_cons (ps_set (i := 3) sc_deeds_met.nd rfl (Or.inl rfl) (pk k_deed_at hr (by decide) rfl pass0 (pa_cons (pv 0) (pa_cons (pv 2) pa_nil))))
      (pss_cons (ps_asg (pe_ifExp (pt_cmpR op_isN (pv 3) pe_non (nomark _)) (pe_tup (pa_cons pe_non (pa_cons pe_int pa_nil))) (pv 3)) (pg_tup rfl (pgs_cons (pg_name (i := 4) sc_deeds_met.nd rfl (Or.inl rfl)) (pgs_cons (pg_name (i := 5) sc_deeds_met.nd rfl (Or.inl rfl)) pgs_nil))))
      (pss_cons (ps_expr (pe_bm PySem.F.plainAttrs_list PySem.F.slot_list_append PySem.F.type_list_append mt_append (pv 1) (pa_cons (pe_tup (pa_cons (pv 2) (pa_cons (pv 4) (pa_cons (pv 5) pa_nil)))) pa_nil)))
      (pss_one (ps_aug (i := 2) sc_deeds_met.nd rfl (Or.inl rfl) (pv 5) ip_add))))))
      (pss_one (ps_ret (pv 1)))))), ?_⟩
    refine ⟨line5 (by simp), fun D hD => ?_⟩
    have hDn : H D = none := hD
    have s1 : Same H (upd H D (.lst [])) := Same.add hD
    have e1 : (upd H D (.lst [])) D = some (.lst []) := upd_same
    generalize upd H D (.lst []) = H1 at s1 e1 ⊢
    refine while_by (fun σ G => ∃ (n : Nat) (v3 v4 v5 : Option V) (rs : List V), σ = [some (.ref t), some (.ref D), some (.int ((sw ws n).1 : Nat)), v3, v4, v5] ∧ Same H G ∧ G D = some (.lst rs) ∧ MetV K G rs (sw ws n).2) (fun σ _ => match σ with | _ :: _ :: some (.int x) :: _ => ws.length - x.toNat | _ => 0) ⟨0, none, none, none, [], rfl, s1, e1, .nil⟩ ?_ (fun σ H Q Q' m h => ?_)
    · rintro σ G ⟨n, v3, v4, v5, rs, rfl, sG, hG, hm⟩
      have el : (vInts ws).length = ws.length := List.length_map ..
      refine ⟨_, rfl, _, rfl, _, _, rfl, .inr ⟨_, Same.tup sG hS, rfl⟩, _, _, rfl, rfl, _, rfl, ?_⟩
      rw [el]
      by_cases c : (sw ws n).1 < ws.length
      · rw [decide_eq_true (show (((sw ws n).1 : Nat) : Int) < ((ws.length : Nat) : Int) by omega)]
        refine iteT ?_
        have hx := List.getElem?_eq_getElem c
        have hw2 := hw _ (List.getElem_mem c)
        have hfit := sizeO_fit c
        refine ⟨_, rfl, _, rfl, t, ws, (sw ws n).1, _, rfl, Same.tup sG hS, hx, hw2.1, hw2.2, fun d r pd G2 hd s2 hpd hr2 => ?_, fun hno G2 s2 => ?_⟩
        · have hat := atD_some hd
          have sG2 := Same.trans sG s2
          have G2D := s2 _ _ hG
          have G2s := s2
          refine ⟨_, rfl, rfl, _, rfl, ?_⟩
          show if decide (V.ref r = V.non) = true then _ else _
          rw [decide_eq_false (by simp)]
          refine iteF ⟨_, rfl, r, _, rfl, hr2, rfl, _, _, rfl, _, _, rfl, rfl, ?_⟩
          refine ⟨_, rfl, .inl ⟨rfl, _, SqL.of G2D⟩, _, rfl, _, rfl, _, rfl, line5 (by simp), fun rr hrr => ?_⟩
          have s9 : Same G2 (upd G2 rr (.tup [V.int ((sw ws n).1 : Nat), V.ref pd, V.int (((d.words (((sw ws n).1 : Nat) : Int)).length : Nat) : Int)])) := Same.add hrr
          have e9 : (upd G2 rr (.tup [V.int ((sw ws n).1 : Nat), V.ref pd, V.int (((d.words (((sw ws n).1 : Nat) : Int)).length : Nat) : Int)])) rr = some (.tup [V.int ((sw ws n).1 : Nat), V.ref pd, V.int (((d.words (((sw ws n).1 : Nat) : Int)).length : Nat) : Int)]) := upd_same
          generalize upd G2 rr (.tup [V.int ((sw ws n).1 : Nat), V.ref pd, V.int (((d.words (((sw ws n).1 : Nat) : Int)).length : Nat) : Int)]) = G9 at s9 e9 ⊢
          refine ⟨D, rs, _, rfl, rfl, s9 _ _ G2D, ?_, ?_⟩
          · rw [hm.len]
            have := (sw_le ws n).2.1
            have := (sw_le ws n).1
            exact line_lt' (show (sw ws n).2.length < 100000 from sw_short hl c)
          refine ⟨_, rfl, _, rfl, _, _, rfl, rfl, ⟨n + 1, some (.ref r), some (.ref pd), some (.int (((d.words (((sw ws n).1 : Nat) : Int)).length : Nat) : Int)), rs ++ [.ref rr], ?_, Same.mut (Same.trans sG2 s9) hDn, upd_same, ?_⟩, ?_⟩
          · rw [sw_succ, if_pos c, hat]
            rfl
          · rw [sw_succ, if_pos c, hat]
            exact MetV.snoc (tup_put2 (s9 _ _ G2D) (SqT.of e9)) (show VD K _ (.ref pd) (some d) from ⟨pd, rfl, tup_put2 (s9 _ _ G2D) (Same.tup s9 hpd)⟩) (hm.map fun a xs h => tup_put2 (s9 _ _ G2D) (Same.tup (G2s.trans s9) h))
          · rw [hat] at hfit
            show ws.length - (((sw ws n).1 : Nat) + ((sizeO (sw ws n).1 (some d) : Nat) : Int)).toNat < ws.length - (((sw ws n).1 : Nat) : Int).toNat
            omega
        · have hat := atD_none hno
          refine ⟨_, rfl, rfl, _, rfl, ?_⟩
          show if decide (V.non = V.non) = true then _ else _
          rw [decide_eq_true rfl]
          refine iteT ⟨line5 (by simp), fun r hr => ?_⟩
          have s3 : Same G2 (upd G2 r (.tup [V.non, V.int 1])) := Same.add hr
          have e3 : (upd G2 r (.tup [V.non, V.int 1])) r = some (.tup [V.non, V.int 1]) := upd_same
          generalize upd G2 r (.tup [V.non, V.int 1]) = G3 at s3 e3 ⊢
          refine ⟨r, _, rfl, SqT.of e3, rfl, _, _, rfl, _, _, rfl, rfl, ?_⟩
          have G3s := Same.trans s2 s3
          have sG3 := Same.trans sG G3s
          have G3D := G3s _ _ hG
          refine ⟨_, rfl, .inl ⟨rfl, _, SqL.of G3D⟩, _, rfl, _, rfl, _, rfl, line5 (by simp), fun rr hrr => ?_⟩
          have s9 : Same G3 (upd G3 rr (.tup [V.int ((sw ws n).1 : Nat), V.non, V.int 1])) := Same.add hrr
          have e9 : (upd G3 rr (.tup [V.int ((sw ws n).1 : Nat), V.non, V.int 1])) rr = some (.tup [V.int ((sw ws n).1 : Nat), V.non, V.int 1]) := upd_same
          generalize upd G3 rr (.tup [V.int ((sw ws n).1 : Nat), V.non, V.int 1]) = G9 at s9 e9 ⊢
          refine ⟨D, rs, _, rfl, rfl, s9 _ _ G3D, ?_, ?_⟩
          · rw [hm.len]
            have := (sw_le ws n).2.1
            have := (sw_le ws n).1
            exact line_lt' (show (sw ws n).2.length < 100000 from sw_short hl c)
          refine ⟨_, rfl, _, rfl, _, _, rfl, rfl, ⟨n + 1, some .non, some .non, some (.int 1), rs ++ [.ref rr], ?_, Same.mut (Same.trans sG3 s9) hDn, upd_same, ?_⟩, ?_⟩
          · rw [sw_succ, if_pos c, hat]
            rfl
          · rw [sw_succ, if_pos c, hat]
            exact MetV.snoc (tup_put2 (s9 _ _ G3D) (SqT.of e9)) (show VD K _ .non none from rfl) (hm.map fun a xs h => tup_put2 (s9 _ _ G3D) (Same.tup (G3s.trans s9) h))
          · rw [hat] at hfit
            show ws.length - (((sw ws n).1 : Nat) + ((sizeO (sw ws n).1 none : Nat) : Int)).toNat < ws.length - (((sw ws n).1 : Nat) : Int).toNat
            omega
      · rw [decide_eq_false (show ¬ (((sw ws n).1 : Nat) : Int) < ((ws.length : Nat) : Int) by omega)]
        refine iteF ?_
        rw [sw_end c] at hm
        exact ⟨_, rfl, q D rs G sG hDn hG hm⟩
    · obtain ⟨v, e, v0, e0, x, n, e1, l, i, j, e2, e3, k, e4, q⟩ := h
      exact ⟨v, e, v0, e0, x, n, e1, l, i, j, e2, e3, k, e4, m _ _ q⟩
end
end Bm
namespace Bm
open PySem L2
def De.goal : De → Option Int
  | .jump _ g _ => some g
  | .call g _ => some g
  | _ => none
end Bm
set_option maxHeartbeats 800000
namespace Bm
open PySem PySem.Spec PyProof.Rows L2
def farT (b : Bool) : Str := if b = true then "far" else "near"
def intT (i : Int) : Str := PySem.Str.ofString (toString i)
/-- what a deed's row tells behind its name: registers and numbers -/
def De.parts : De → List (Bool × Int)
  | .sgl _ => []
  | .reg _ a => [(true, a)]
  | .sum _ d a b => [(true, d), (true, a), (true, b)]
  | .plus d a n => [(true, d), (true, a), (false, n)]
  | .set d n => [(true, d), (false, n)]
  | .high d n => [(true, d), (false, n)]
  | .load d a n => [(true, d), (true, a), (false, n)]
  | .store d a n => [(true, d), (true, a), (false, n)]
  | .jump _ _ _ => []
  | .call _ _ => []
def De.name : De → Str
  | .sgl k => nm SG k
  | .reg k _ => nm SG k
  | .sum k _ _ _ => nm SM k
  | .plus _ _ _ => "plus"
  | .set _ _ => "set"
  | .high _ _ => "high"
  | .load _ _ _ => "load"
  | .store _ _ _ => "store"
  | .jump _ _ _ => "jump"
  | .call _ _ => "call"
def partT (p : Bool × Int) : Str := if p.1 = true then ("r" : Str) ++ intT p.2 else intT p.2
def rowT (d : De) : Str := match d with
  | .jump k g f => ("jump." : Str) ++ farT f ++ " p" ++ intT g ++ ", " ++ nm TM k
  | .call g f => ("call." : Str) ++ farT f ++ " p" ++ intT g
  | .sgl k => nm SG k
  | d => d.name ++ " " ++ Txt.join ", " (d.parts.map partT)
theorem log_of {i : Int} (h : i.natAbs ≤ 100000) : i.natAbs.log2 < 1920 := by
  have h1 : i.natAbs.log2 ≤ i.natAbs := Nat.log2_le_self _
  rcases Nat.eq_zero_or_pos i.natAbs with e | e
  · rw [e]; decide
  · have h2 : 2 ^ i.natAbs.log2 ≤ i.natAbs := Nat.log2_self_le (by omega)
    rcases Nat.lt_or_ge i.natAbs.log2 17 with q | q
    · omega
    · have h3 : 2 ^ 17 ≤ 2 ^ i.natAbs.log2 := Nat.pow_le_pow_right (by decide) q
      omega
theorem intT_len {i : Int} (h : i.natAbs ≤ 100000) : (intT i).length ≤ 5000 := by
  have := int_text_len_1921 (log_of h)
  unfold intT
  omega
theorem sapp_len (a b : Str) : (a ++ b).length = a.length + b.length := PySem.Str.length_append a b
theorem partT_len {p : Bool × Int} (h : p.2.natAbs ≤ 100000) : (partT p).length ≤ 5001 := by
  have h1 := intT_len h
  unfold partT
  split
  · rw [sapp_len]
    have : ("r" : Str).length = 1 := by decide +kernel
    omega
  · omega
theorem nm_short : ∀ k, k < 8 → (nm SG k).length ≤ 10 ∧ (nm SM k).length ≤ 10 ∧ (nm TM k).length ≤ 10 := by decide +kernel
theorem nm_lens : ("plus" : Str).length ≤ 10 ∧ ("set" : Str).length ≤ 10 ∧ ("high" : Str).length ≤ 10 ∧ ("load" : Str).length ≤ 10 ∧ ("store" : Str).length ≤ 10 ∧ ("jump" : Str).length ≤ 10 ∧ ("call" : Str).length ≤ 10 := by decide +kernel
theorem name_short {d : De} (h : d.ok) : d.name.length ≤ 10 := by
  cases d with
  | sgl k => exact (nm_short k (Nat.lt_of_lt_of_le (show k < 3 from h) (by decide))).1
  | reg k a => exact (nm_short k (Nat.lt_of_lt_of_le h.2.1 (by decide))).1
  | sum k d a b => exact (nm_short k h.1).2.1
  | plus d a n => exact nm_lens.1
  | set d n => exact nm_lens.2.1
  | high d n => exact nm_lens.2.2.1
  | load d a n => exact nm_lens.2.2.2.1
  | store d a n => exact nm_lens.2.2.2.2.1
  | jump k g f => exact nm_lens.2.2.2.2.2.1
  | call g f => exact nm_lens.2.2.2.2.2.2
theorem parts_small {d : De} (h : d.ok) : ∀ p ∈ d.parts, p.2.natAbs ≤ 100000 := fun p hp => by
  have r : ∀ {i : Int}, r3 i → i.natAbs ≤ 100000 := fun {i} h => by
    have h : 0 ≤ i ∧ i ≤ 7 := h
    omega
  cases d with
  | sgl k => cases hp
  | reg k a =>
    obtain ⟨_, _, ha⟩ := h
    simp only [De.parts, List.mem_cons, List.not_mem_nil, or_false] at hp
    rw [hp]
    exact r ha
  | sum k d a b =>
    obtain ⟨_, hd, ha, hb⟩ := h
    simp only [De.parts, List.mem_cons, List.not_mem_nil, or_false] at hp
    rcases hp with rfl | rfl | rfl
    · exact r hd
    · exact r ha
    · exact r hb
  | plus d a n =>
    obtain ⟨hd, ha, h1, h2⟩ := h
    simp only [De.parts, List.mem_cons, List.not_mem_nil, or_false] at hp
    rcases hp with rfl | rfl | rfl
    · exact r hd
    · exact r ha
    · show n.natAbs ≤ 100000; omega
  | set d n =>
    obtain ⟨hd, h1, h2⟩ := h
    simp only [De.parts, List.mem_cons, List.not_mem_nil, or_false] at hp
    rcases hp with rfl | rfl
    · exact r hd
    · show n.natAbs ≤ 100000; omega
  | high d n =>
    obtain ⟨hd, h1, h2⟩ := h
    simp only [De.parts, List.mem_cons, List.not_mem_nil, or_false] at hp
    rcases hp with rfl | rfl
    · exact r hd
    · show n.natAbs ≤ 100000; omega
  | load d a n =>
    obtain ⟨hd, ha, h1, h2⟩ := h
    simp only [De.parts, List.mem_cons, List.not_mem_nil, or_false] at hp
    rcases hp with rfl | rfl | rfl
    · exact r hd
    · exact r ha
    · show n.natAbs ≤ 100000; omega
  | store d a n =>
    obtain ⟨hd, ha, h1, h2⟩ := h
    simp only [De.parts, List.mem_cons, List.not_mem_nil, or_false] at hp
    rcases hp with rfl | rfl | rfl
    · exact r hd
    · exact r ha
    · show n.natAbs ≤ 100000; omega
  | jump k g f => cases hp
  | call g f => cases hp
theorem parts_le (d : De) : d.parts.length ≤ 3 := by cases d <;> simp [De.parts]
/-- a deed's values, where it has registers and numbers alone -/
theorem vals_parts {d : De} (h : d.goal = none) : d.vals = .str d.name :: d.parts.map (fun p => V.int p.2) := by cases d <;> first | rfl | cases h
theorem vals_jump (k : Nat) (g : Int) (f : Bool) : (De.jump k g f).vals = [.str "jump", .str (nm TM k), .int g, .bl f] := rfl
/-- the kinds of a deed's parts, as the table tells them -/
def De.kinds : De → List Str
  | .sgl _ => []
  | .reg _ _ => ["reg"]
  | .sum _ _ _ _ => ["reg", "reg", "reg"]
  | .plus _ _ _ => ["reg", "reg", "signed six"]
  | .set _ _ => ["reg", "nine"]
  | .high _ _ => ["reg", "seven"]
  | .load _ _ _ => ["reg", "reg", "six"]
  | .store _ _ _ => ["reg", "reg", "six"]
  | .jump _ _ _ => ["when", "goal", "far"]
  | .call _ _ => ["goal", "far"]
theorem sg_pt : ∀ k, k < 7 → 3 ≤ k → ((nm SG k, ["reg"]) : Str × List Str) ∈ PT := by decide +kernel
theorem sm_pt : ∀ k, k < 8 → ((nm SM k, ["reg", "reg", "reg"]) : Str × List Str) ∈ PT := by decide +kernel
theorem kinds_in {d : De} (h : d.ok) (hg : d.goal = none) (hn : d.parts ≠ []) : (d.name, d.kinds) ∈ PT := by
  cases d with
  | sgl k => exact absurd rfl hn
  | reg k a => exact sg_pt k h.2.1 h.1
  | sum k d a b => exact sm_pt k h.1
  | jump k g f => cases hg
  | call g f => cases hg
  | plus d a n => exact (show (("plus", ["reg", "reg", "signed six"]) : Str × List Str) ∈ PT by decide +kernel)
  | set d n => exact (show (("set", ["reg", "nine"]) : Str × List Str) ∈ PT by decide +kernel)
  | high d n => exact (show (("high", ["reg", "seven"]) : Str × List Str) ∈ PT by decide +kernel)
  | load d a n => exact (show (("load", ["reg", "reg", "six"]) : Str × List Str) ∈ PT by decide +kernel)
  | store d a n => exact (show (("store", ["reg", "reg", "six"]) : Str × List Str) ∈ PT by decide +kernel)
theorem kinds_reg (d : De) : ∀ (i : Nat) (z : Str) (p : Bool × Int), d.goal = none → d.kinds[i]? = some z → d.parts[i]? = some p → decide (z = "reg") = p.1 := fun i z p hg hz hp => by
  have three : ∀ {x y w : Str} {a b c : Bool × Int}, [x, y, w][i]? = some z → [a, b, c][i]? = some p → (decide (x = "reg") = a.1 ∧ decide (y = "reg") = b.1 ∧ decide (w = "reg") = c.1) → decide (z = "reg") = p.1 := fun h1 h2 h => by
    match i, h1, h2 with
    | 0, h1, h2 => rw [← Option.some.inj h1, ← Option.some.inj h2]; exact h.1
    | 1, h1, h2 => rw [← Option.some.inj h1, ← Option.some.inj h2]; exact h.2.1
    | 2, h1, h2 => rw [← Option.some.inj h1, ← Option.some.inj h2]; exact h.2.2
    | n + 3, h1, h2 => cases h1
  have two : ∀ {x y : Str} {a b : Bool × Int}, [x, y][i]? = some z → [a, b][i]? = some p → (decide (x = "reg") = a.1 ∧ decide (y = "reg") = b.1) → decide (z = "reg") = p.1 := fun h1 h2 h => by
    match i, h1, h2 with
    | 0, h1, h2 => rw [← Option.some.inj h1, ← Option.some.inj h2]; exact h.1
    | 1, h1, h2 => rw [← Option.some.inj h1, ← Option.some.inj h2]; exact h.2
    | n + 2, h1, h2 => cases h1
  have r : decide (("reg" : Str) = "reg") = true := by decide +kernel
  have n1 : decide (("signed six" : Str) = "reg") = false ∧ decide (("nine" : Str) = "reg") = false ∧ decide (("seven" : Str) = "reg") = false ∧ decide (("six" : Str) = "reg") = false := by decide +kernel
  cases d with
  | sgl k => cases hz
  | reg k a =>
    match i, hz, hp with
    | 0, h1, h2 => rw [← Option.some.inj h1, ← Option.some.inj h2]; exact r
    | n + 1, h1, h2 => cases h1
  | sum k d a b => exact three hz hp ⟨r, r, r⟩
  | plus d a n => exact three hz hp ⟨r, r, n1.1⟩
  | set d n => exact two hz hp ⟨r, n1.2.1⟩
  | high d n => exact two hz hp ⟨r, n1.2.2.1⟩
  | load d a n => exact three hz hp ⟨r, r, n1.2.2.2⟩
  | store d a n => exact three hz hp ⟨r, r, n1.2.2.2⟩
  | jump k g f => cases hg
  | call g f => cases hg
theorem kinds_len (d : De) (hg : d.goal = none) : d.kinds.length = d.parts.length := by cases d <;> first | rfl | cases hg
theorem rowT_parts {d : De} (hg : d.goal = none) (hn : d.parts ≠ []) : rowT d = d.name ++ " " ++ Txt.join ", " (d.parts.map partT) := by
  cases d with
  | sgl k => exact absurd rfl hn
  | jump k g f => cases hg
  | call g f => cases hg
  | _ => rfl
section
variable {P : Program} {w : World} {K : PySem.W.Frag} {mg : Str → Option Value} {base : Heap} {f : Addr} {fd : FuncData} {dvs : List V} {odd : List Str}
def spFarW : Sp := fun vs H Q _ => ∃ b : Bool, vs = [.bl b] ∧ Q (.str (farT b)) H
abbrev N_reach_word : List Str := ["far"]
theorem sc_reach_word : FnScope ["far"] ["far"] (defScope s_reach_word) := ⟨rfl, rfl, rfl, by decide +kernel, rfl, by decide +kernel, by decide +kernel⟩
theorem ok_farw (F : FnP K "reach_word" s_reach_word dvs f fd) : FnOk P w K mg base CX0 1 f fd ["far"] spFarW := by
  refine F.ok sc_reach_word (fun vs H Q E h => ?_) (fun cdv A outer s H vs Q E hr h => ?_)
  · obtain ⟨b, rfl, _⟩ := h
    rfl
  · obtain ⟨b, rfl, q⟩ := h
    refine ⟨_, PSs.nox (pss_one (ps_ret (pe_ifExp (pt_val (pv 0)) pe_str pe_str))), ?_⟩
    unfold farT at q
    refine ⟨_, rfl, b, rfl, ?_⟩
    cases b with
    | true => exact q
    | false => exact q
abbrev KnFw (P : Program) (w : World) (K : PySem.W.Frag) (mg : Str → Option Value) (base : Heap) : Prop := Kn P w K mg base CX0 1 "reach_word" ["far"] [] spFarW
def goalOk (d : De) : Prop := ∀ g, d.goal = some g → g.natAbs ≤ 100000
def spRowT (K : PySem.W.Frag) : Sp := fun vs H Q _ => ∃ (a : Addr) (d : De), vs = [.ref a] ∧ SqT K H a d.vals ∧ d.ok ∧ goalOk d ∧ ∀ H', Same H H' → Q (.str (rowT d)) H'
theorem far_len (b : Bool) : (farT b).length = 3 + (if b = true then 0 else 1) := by cases b <;> decide +kernel
theorem pev_first_no {K : PySem.W.Frag} {H : Hp} {a : Addr} {z c : Str} {r : List V} {n : Nat} {u : List V → Hp → PK → Prop} (hs : SqT K H a (.str z :: r)) (hz : z ≠ c) : PEv (tPseq K n (tPcons (tPv (.str c)) u)) (.ref a) H none := by
  by_cases e : (V.str z :: r).length = n
  · exact pev_seq hs e (psev_no (pev_str hz))
  · exact pev_len hs e
theorem sgn_not : ∀ k, k < 8 → (nm SG k ≠ "jump" ∧ nm SG k ≠ "call") ∧ nm SM k ≠ "jump" ∧ nm SM k ≠ "call" := by decide +kernel
theorem nms_not : (("plus" : Str) ≠ "jump" ∧ ("plus" : Str) ≠ "call") ∧ (("set" : Str) ≠ "jump" ∧ ("set" : Str) ≠ "call") ∧ (("high" : Str) ≠ "jump" ∧ ("high" : Str) ≠ "call") ∧ (("load" : Str) ≠ "jump" ∧ ("load" : Str) ≠ "call") ∧ (("store" : Str) ≠ "jump" ∧ ("store" : Str) ≠ "call") := by decide +kernel
theorem name_not {d : De} (h : d.ok) (hg : d.goal = none) (hn : d.parts ≠ []) : d.name ≠ "jump" ∧ d.name ≠ "call" := by
  cases d with
  | sgl k => exact absurd rfl hn
  | reg k a => exact (sgn_not k (Nat.lt_of_lt_of_le h.2.1 (by decide))).1
  | sum k d a b => exact (sgn_not k h.1).2
  | plus d a n => exact nms_not.1
  | set d n => exact nms_not.2.1
  | high d n => exact nms_not.2.2.1
  | load d a n => exact nms_not.2.2.2.1
  | store d a n => exact nms_not.2.2.2.2
  | jump k g f => cases hg
  | call g f => cases hg
theorem join_eq (x : Str) (l : List Str) : Txt.join x l = PySem.Str.join x l := by
  unfold Txt.join
  rw [PySem.StrLaws.glued_eq_join]
theorem join_len (x : Str) : ∀ l : List Str, (Txt.join x l).length ≤ (l.map (·.length)).sum + l.length * x.length := fun l => by
  rw [join_eq]
  exact PySem.StrLaws.join_length_le x l
theorem pickB {c : Bool} {p : Prop} [Decidable p] {A B : Prop} (h : c = decide p) (ha : p → A) (hb : ¬ p → B) : if c = true then A else B := by
  by_cases e : p
  · rw [h, decide_eq_true e, if_pos rfl]; exact ha e
  · rw [h, decide_eq_false e]; exact hb e
theorem row_lens : ("jump." : Str).length = 5 ∧ (" p" : Str).length = 2 ∧ (", " : Str).length = 2 ∧ ("call." : Str).length = 5 ∧ (" " : Str).length = 1 := by decide +kernel
abbrev N_deed_row : List Str := ["deed", "when", "goal", "far", "name", "kinds", "parts", "kind", "part"]
theorem sc_deed_row : FnScope ["deed", "when", "goal", "far", "name", "kinds", "parts", "kind", "part"] ["deed"] (defScope s_deed_row) := ⟨rfl, rfl, rfl, by decide +kernel, rfl, by decide +kernel, by decide +kernel⟩
theorem ok_row (F : FnP K "deed_row" s_deed_row dvs f fd) (C : Con w K mg odd) (k_reach_word : KnFw P w K mg base) (g_zip : mg "zip" = none) (g_str : mg "str" = none) : FnOk P w K mg base CX0 2 f fd ["deed"] (spRowT K) := by
  refine F.ok sc_deed_row (fun vs H Q E h => ?_) (fun cdv A outer s H vs Q E hr h => ?_)
  · obtain ⟨a, d, rfl, _⟩ := h
    rfl
  · obtain ⟨a, d, rfl, hS, hok, hgo, q⟩ := h
    have g_PARTS := C.g_PARTS
    obtain ⟨es, n, D_PARTS⟩ := C.parts
    refine ⟨_, PSs.nox (pss_one (ps_match (pv 0) (pcs_cons sc_deed_row.nd (pp_seq rfl (pps_cons (pp_val pe_str) (pps_cons (pp_name (i := 1) rfl (Or.inl rfl)) (pps_cons (pp_name (i := 2) rfl (Or.inl rfl)) (pps_cons (pp_name (i := 3) rfl (Or.inl rfl)) pps_nil))))) (pss_one (ps_ret (pe_joined (.cons pe_str (.cons (pe_fmt (pk k_reach_word hr (by decide) rfl pass0 (pa_cons (pv 3) pa_nil))) (.cons pe_str (.cons (pe_fmt (pv 2)) (.cons pe_str (.cons (pe_fmt (pv 1)) .nil)))))))))
      (pcs_cons sc_deed_row.nd (pp_seq rfl (pps_cons (pp_val pe_str) (pps_cons (pp_name (i := 2) rfl (Or.inl rfl)) (pps_cons (pp_name (i := 3) rfl (Or.inl rfl)) pps_nil)))) (pss_one (ps_ret (pe_joined (.cons pe_str (.cons (pe_fmt (pk k_reach_word hr (by decide) rfl pass0 (pa_cons (pv 3) pa_nil))) (.cons pe_str (.cons (pe_fmt (pv 2)) .nil)))))))
      (pcs_cons sc_deed_row.nd (pp_seq rfl (pps_cons (pp_name (i := 4) rfl (Or.inl rfl)) pps_nil)) (pss_one (ps_ret (pv 4)))
      (pcs_cons sc_deed_row.nd pp_wild (pss_cons (ps_set (i := 5) sc_deed_row.nd rfl (Or.inl rfl) (pe_ix ix_kdict (pe_glob (v := .ref (He.ga K "PARTS")) rfl g_PARTS rfl) (pe_ix ix_tup (pv 0) pe_int (fun _ _ => rfl)) (fun _ _ => rfl)))
      (pss_cons (ps_setLc (i := 6) (own := [("kind", 7), ("part", 8)]) (g := gTup K 2 (gCons (gName 7) (gCons (gName 8) (gNil)))) rfl sc_deed_row.nd rfl rfl (sw_true rfl rfl rfl (by decide +kernel)) (RZ.pi_zipA rfl g_zip (pa_cons (pv 5) (pa_cons (pe_slice sl_tupA (pv 0) (po_some pe_int) po_none) pa_nil))) (blkOk_by (own := [("kind", 7), ("part", 8)]) (N := N_deed_row) (sc := defScope s_deed_row) (by decide +kernel)) (fun _ _ _ _ _ => (pg_tup rfl (pgs_cons (pg_name (i := 7) sc_deed_row.nd rfl (Or.inl rfl)) (pgs_cons (pg_name (i := 8) sc_deed_row.nd rfl (Or.inl rfl)) pgs_nil)))) (fun _ _ _ _ _ => pts_nil) (fun _ _ _ _ _ => (pe_ifExp (pt_cmpR op_eq (pv 7) pe_str (nomark _)) (pe_joined (.cons pe_str (.cons (pe_fmt (pv 8)) .nil))) (pe_callTy call_str_int rfl g_str (by decide +kernel) (pa_cons (pv 8) pa_nil)))))
      (pss_one (ps_ret (pe_op op_add_str (pe_op op_add_str (pe_ix ix_tup (pv 0) pe_int (fun _ _ => rfl)) pe_str) (pe_bm PySem.F.plainAttrs_str PySem.F.slot_str_join PySem.F.type_str_join mt_join pe_str (pa_cons (pv 6) pa_nil)))))))
      pcs_nil)))))), ?_⟩
    refine ⟨_, rfl, ?_⟩
    cases hg : d.goal with
    | some g =>
      have gl := intT_len (hgo g hg)
      have gl' : (PySem.Str.ofString (toString g)).length ≤ 5000 := gl
      have gz := log_of (hgo g hg)
      have z0 : Str.empty.length = 0 := rfl
      obtain ⟨c1, c2, c3, c4, c5⟩ := row_lens
      have ll : ∀ x : Str, x.length ≤ 100000 → x.length ≤ sizeLine := fun x h => line5 h
      cases d with
      | jump k g' far =>
        cases hg
        refine cs_yes (pev_seq hS rfl (psev_cons (pev_yes rfl) (psev_cons pev_name (psev_cons pev_name (psev_cons pev_name psev_nil))))) ?_
        have ft := far_len far
        have kt := (nm_short k (Nat.lt_of_lt_of_le hok.1 (by decide))).2.2
        have fl : (farT far).length ≤ 4 := by rw [ft]; split <;> omega
        refine ⟨_, rfl, ll _ (by simp only [sapp_len, z0, c1]; omega), _, rfl, far, rfl, .inl ⟨_, rfl, ll _ (by omega), _, rfl, ll _ (by simp only [sapp_len, z0, c1]; omega), _, rfl, ll _ (by simp only [sapp_len, z0, c1, c2]; omega), _, rfl, .inr ⟨g, rfl, gz, _, rfl, ll _ (by simp only [sapp_len, z0, c1, c2]; omega), _, rfl, ll _ (by simp only [sapp_len, z0, c1, c2, c3]; omega), _, rfl, .inl ⟨_, rfl, ll _ (by omega), _, rfl, ll _ (by simp only [sapp_len, z0, c1, c2, c3]; omega), ?_⟩⟩⟩⟩
        show Q (.str (Str.empty ++ "jump." ++ farT far ++ " p" ++ PySem.Str.ofString (toString g) ++ ", " ++ nm TM k)) H
        rw [PySem.Str.empty_append]
        exact q H (Same.refl H)
      | call g' far =>
        cases hg
        refine cs_no (pev_len hS (Nat.ne_of_beq_eq_false rfl)) (cs_yes (pev_seq hS rfl (psev_cons (pev_yes rfl) (psev_cons pev_name (psev_cons pev_name psev_nil)))) ?_)
        have ft := far_len far
        have fl : (farT far).length ≤ 4 := by rw [ft]; split <;> omega
        refine ⟨_, rfl, ll _ (by simp only [sapp_len, z0, c4]; omega), _, rfl, far, rfl, .inl ⟨_, rfl, ll _ (by omega), _, rfl, ll _ (by simp only [sapp_len, z0, c4]; omega), _, rfl, ll _ (by simp only [sapp_len, z0, c4, c2]; omega), _, rfl, .inr ⟨g, rfl, gz, _, rfl, ll _ (by simp only [sapp_len, z0, c4, c2]; omega), ?_⟩⟩⟩
        show Q (.str (Str.empty ++ "call." ++ farT far ++ " p" ++ PySem.Str.ofString (toString g))) H
        rw [PySem.Str.empty_append]
        exact q H (Same.refl H)
      | _ => cases hg
    | none =>
      by_cases hn : d.parts = []
      · obtain ⟨k, rfl⟩ : ∃ k, d = .sgl k := by
          cases d with
          | sgl k => exact ⟨k, rfl⟩
          | jump k g f => cases hg
          | call g f => cases hg
          | _ => cases hn
        refine cs_no (pev_len hS (Nat.ne_of_beq_eq_false rfl)) (cs_no (pev_len hS (Nat.ne_of_beq_eq_false rfl)) (cs_yes (pev_seq hS rfl (psev_cons pev_name psev_nil)) ?_))
        exact ⟨_, rfl, q H (Same.refl H)⟩
      · have hv := vals_parts hg
        have hks := kinds_in hok hg hn
        have hkl := kinds_len d hg
        obtain ⟨m1, m2⟩ := name_not hok hg hn
        have hS2 := hS
        rw [hv] at hS2
        obtain ⟨t, e1, e2⟩ := C.part _ hks
        have hpl := parts_le d
        have hp0 : 0 < d.parts.length := List.length_pos_iff.mpr hn
        refine cs_no (pev_first_no hS2 m1) (cs_no (pev_first_no hS2 m2) (cs_no (pev_len hS2 (by simp; omega)) (cs_yes pev_wild ?_)))
        refine ⟨_, rfl, a, _, _, _, rfl, rfl, hS2, at0, _, _, .ref t, rfl, rfl, ⟨es, n, _, D_PARTS.at_, D_PARTS.lit, e1, rfl⟩, ?_⟩
        refine ⟨_, rfl, _, rfl, _, rfl, ?_⟩
        unfold tNoPart
        refine rsl hS2 fun b H1 s1 hb => ?_
        rw [cut_tail] at hb
        refine ⟨t, b, d.kinds.map V.str, _, rfl, .inr ⟨e2 H1, hb, fun D hD => ?_⟩⟩
        have hlen : d.parts.length = min (d.kinds.map V.str).length (d.parts.map fun p => V.int p.2).length := by
          rw [List.length_map, List.length_map]
          omega
        refine lc_it (walk_zipT hlen) (fun i H2 => Same H1 H2 ∧ H2 D = some (.lst (((d.parts.map partT).take i).map V.str))) ⟨Same.add hD, upd_same⟩ (fun i H2 _ p => ⟨e2 H2, Same.tup p.1 hb⟩) ?_ ?_
        · rintro i v H2 H3 hi ⟨p1, p2⟩ ⟨T, x, y, rfl, hT, rfl, hx, hy⟩
          have s3 : Same H1 (upd H2 T (.tup [x, y])) := Same.trans p1 (Same.add hT)
          obtain ⟨z, hz, rfl⟩ : ∃ z, d.kinds[i]? = some z ∧ V.str z = x := by
            have hx' : (d.kinds.map V.str)[i]? = some x := hx
            rw [List.getElem?_map] at hx'
            cases c : d.kinds[i]? with
            | none => rw [c] at hx'; cases hx'
            | some z => rw [c] at hx'; exact ⟨z, rfl, Option.some.inj hx'⟩
          obtain ⟨pp, hpp, rfl⟩ : ∃ pp, d.parts[i]? = some pp ∧ V.int pp.2 = y := by
            have hy' : (d.parts.map fun p => V.int p.2)[i]? = some y := hy
            rw [List.getElem?_map] at hy'
            cases c : d.parts[i]? with
            | none => rw [c] at hy'; cases hy'
            | some z => rw [c] at hy'; exact ⟨z, rfl, Option.some.inj hy'⟩
          have hreg := kinds_reg d i z pp hg hz hpp
          have hsm := parts_small hok pp (List.mem_of_getElem? hpp)
          have hlg := log_of hsm
          have hil := intT_len hsm
          have hil' : (PySem.Str.ofString (toString pp.2)).length ≤ 5000 := hil
          have z0 : Str.empty.length = 0 := rfl
          have c1 : ("r" : Str).length = 1 := by decide +kernel
          refine ⟨T, _, rfl, SqT.of upd_same, rfl, _, _, rfl, _, _, rfl, rfl, rfl, ?_⟩
          have fin : ∃ acc, upd H2 T (.tup [V.str z, V.int pp.2]) D = some (.lst acc) ∧ acc.length < sizeLine ∧ Same H1 (upd (upd H2 T (.tup [V.str z, V.int pp.2])) D (.lst (acc ++ [V.str (partT pp)]))) ∧ upd (upd H2 T (.tup [V.str z, V.int pp.2])) D (.lst (acc ++ [V.str (partT pp)])) D = some (.lst (((d.parts.map partT).take (i + 1)).map V.str)) := by
            refine ⟨_, Same.add hT D _ p2, line_lt ?_, Same.mut s3 hD, ?_⟩
            · rw [List.length_map, List.length_take, List.length_map]
              omega
            · have ep : (d.parts.map partT)[i]? = some (partT pp) := by rw [List.getElem?_map, hpp]; rfl
              rw [upd_same, take_succ' ep, List.map_append]
              rfl
          refine ⟨_, rfl, rfl, _, rfl, pickB (p := z = "reg") (decide_eq_decide.mpr ⟨fun w => V.str.inj w, fun w => by rw [w]⟩) (fun c => ?_) (fun c => ?_)⟩
          · have e : partT pp = ("r" : Str) ++ PySem.Str.ofString (toString pp.2) := by
              unfold partT
              rw [if_pos (by rw [← hreg]; exact decide_eq_true c)]
              rfl
            rw [e] at fin
            refine ⟨_, rfl, line5 (by simp only [sapp_len, z0, c1]; omega), _, rfl, .inr ⟨pp.2, rfl, hlg, _, rfl, line5 (by simp only [sapp_len, z0, c1]; omega), ?_⟩⟩
            have e0 : Str.empty ++ ("r" : Str) ++ PySem.Str.ofString (toString pp.2) = ("r" : Str) ++ PySem.Str.ofString (toString pp.2) := by rw [PySem.Str.empty_append]
            unfold tJs
            rw [e0]
            exact fin
          · have e : partT pp = PySem.Str.ofString (toString pp.2) := by
              unfold partT
              rw [if_neg (by rw [← hreg, decide_eq_false c]; exact Bool.false_ne_true)]
              rfl
            rw [e] at fin
            exact ⟨_, rfl, pp.2, rfl, hlg, fin⟩
        · rintro H2 ⟨p1, p2⟩
          have ez : d.parts.length = (d.parts.map partT).length := by rw [List.length_map]
          rw [ez, List.take_length] at p2
          obtain ⟨_, _, c3, _, c5⟩ := row_lens
          have nl := name_short hok
          have sum : ((d.parts.map partT).map (·.length)).sum ≤ 3 * 5001 := by
            have : ∀ l : List (Bool × Int), (∀ p ∈ l, p.2.natAbs ≤ 100000) → ((l.map partT).map (·.length)).sum ≤ l.length * 5001 := fun l => by
              induction l with
              | nil => intro _; simp
              | cons p l ih =>
                intro h
                have h1 := partT_len (h p (List.mem_cons_self ..))
                have h2 := ih fun p hp => h p (List.mem_cons_of_mem _ hp)
                simp only [List.map_cons, List.sum_cons, List.length_cons, Nat.succ_mul]
                omega
            have h := this d.parts (parts_small hok)
            have : d.parts.length * 5001 ≤ 3 * 5001 := Nat.mul_le_mul_right _ hpl
            omega
          have jl : (Txt.join ", " (d.parts.map partT)).length ≤ 20000 := by
            have := join_len (", ") (d.parts.map partT)
            rw [List.length_map, c3] at this
            omega
          refine ⟨_, rfl, a, _, _, _, rfl, rfl, Same.tup (Same.trans s1 p1) hS2, at0, _, _, rfl, rfl, by rw [c5]; exact line5 (by omega), rfl, _, rfl, ", ", D, d.parts.map partT, rfl, rfl, .inl (SqL.of p2), by rw [List.length_map, c3]; omega, _, _, rfl, rfl, line5 (by rw [sapp_len, c5]; omega), ?_⟩
          have := q H2 (Same.trans s1 p1)
          rw [rowT_parts hg hn] at this
          exact this
abbrev KnRow (P : Program) (w : World) (K : PySem.W.Frag) (mg : Str → Option Value) (base : Heap) : Prop := Kn P w K mg base CX0 2 "deed_row" ["deed"] [] (spRowT K)
end
end Bm
set_option maxHeartbeats 1000000
/-! texts of plain signs -/
namespace Bm
open PySem PySem.Spec PyProof.Rows L2
def Cl (x : Str) : Prop := ∀ c ∈ sg x, 32 ≤ c ∧ c < 127
theorem Cl.app {a b : Str} (h : Cl a) (g : Cl b) : Cl (a ++ b) := fun c hc => by
  rw [sg_app, List.mem_append] at hc
  exact hc.elim (h c) (g c)
theorem cl_lit (x : Str) (h : (sg x).all (fun c => decide (32 ≤ c) && decide (c < 127)) = true) : Cl x := fun c hc => by
  have := List.all_eq_true.mp h c hc
  simp only [Bool.and_eq_true, decide_eq_true_eq] at this
  exact this
theorem cl_int (i : Int) : Cl (PySem.Str.ofString (toString i)) := fun c hc => by
  by_cases e : c ≠ 45 ∧ (c < 48 ∨ 57 < c)
  · exact absurd hc (int_text_free' c e i)
  · omega
theorem Cl.ok {x : Str} (h : Cl x) : PyData.strOk x = true := by
  unfold PyData.strOk
  rw [← Array.all_toList, List.all_eq_true]
  exact fun c hc => decide_eq_true (by have := (h c hc).2; omega)
theorem join_one (x a : Str) : Txt.join x [a] = a := by
  unfold Txt.join
  rw [PySem.StrLaws.glued_eq_join]
  rfl
theorem join_nil (x : Str) : Txt.join x [] = Str.empty := by
  unfold Txt.join
  rw [PySem.StrLaws.glued_eq_join]
  rfl
theorem join_more (x a b : Str) (l : List Str) : Txt.join x (a :: b :: l) = a ++ x ++ Txt.join x (b :: l) := by
  unfold Txt.join
  rw [PySem.StrLaws.glued_eq_join, PySem.StrLaws.glued_eq_join]
  rfl
theorem cl_empty : Cl Str.empty := fun c hc => by cases hc
theorem cl_join {x : Str} (hx : Cl x) : ∀ {l : List Str}, (∀ y ∈ l, Cl y) → Cl (Txt.join x l)
  | [], _ => by rw [join_nil]; exact cl_empty
  | [a], h => by rw [join_one]; exact h a (List.mem_cons_self ..)
  | a :: b :: l, h => by
    rw [join_more]
    exact ((h a (List.mem_cons_self ..)).app hx).app (cl_join hx fun y hy => h y (List.mem_cons_of_mem _ hy))
/-- figures of a number, the first first -/
def dg (d : Nat) : Nat := (Nat.digitChar d).toNat
def figs (b : Nat) : Nat → Nat → List Nat
  | 0, _ => []
  | k + 1, n => figs b k (n / b) ++ [dg (n % b)]
theorem figs_zero (b : Nat) : ∀ k, figs b k 0 = List.replicate k 48
  | 0 => rfl
  | k + 1 => by
    unfold figs
    rw [Nat.zero_div, Nat.zero_mod, figs_zero b k, List.replicate_succ']
    rfl
theorem figs_len (b : Nat) : ∀ k n, (figs b k n).length = k
  | 0, _ => rfl
  | k + 1, n => by
    unfold figs
    rw [List.length_append, figs_len b k]
    rfl
theorem figs_cons (b : Nat) : ∀ k n, figs b (k + 1) n = dg (n / b ^ k % b) :: figs b k n
  | 0, n => by
    unfold figs figs
    rw [Nat.pow_zero, Nat.div_one]
    rfl
  | k + 1, n => by
    rw [figs, figs_cons b k (n / b), Nat.div_div_eq_div_mul, ← Nat.pow_succ', List.cons_append]
    rfl
theorem fig_figs {b : Nat} (hb : 1 < b) : ∀ k n, n < b ^ (k + 1) → List.replicate (k + 1 - (Nat.toDigits b n).length) 48 ++ (Nat.toDigits b n).map Char.toNat = figs b (k + 1) n
  | 0, n, h => by
    rw [Nat.toDigits_of_lt_base (by simpa using h)]
    have e : n % b = n := Nat.mod_eq_of_lt (by simpa using h)
    show [] ++ [dg n] = [] ++ [dg (n % b)]
    rw [e]
  | k + 1, n, h => by
    by_cases c : n < b
    · rw [Nat.toDigits_of_lt_base c, figs, Nat.div_eq_of_lt c, Nat.mod_eq_of_lt c, figs_zero]
      rfl
    · have hm : n % b < b := Nat.mod_lt n (by omega)
      have t : Nat.toDigits b (n / b) ++ Nat.toDigits b (n % b) = Nat.toDigits b (b * (n / b) + n % b) := Nat.toDigits_append_toDigits hb (Nat.div_pos (by omega) (by omega)) hm
      rw [Nat.div_add_mod] at t
      have ih := fig_figs hb k (n / b) (Nat.div_lt_of_lt_mul (by rw [← Nat.pow_succ']; exact h))
      rw [← t, List.map_append, Nat.toDigits_of_lt_base hm, List.length_append, List.length_singleton, Nat.add_sub_add_right, ← List.append_assoc, ih]
      rfl
theorem sg_fig {b k n : Nat} (hb : 1 < b) (h : n < b ^ (k + 1)) : sg (figT b (k + 1) n) = figs b (k + 1) n := fig_figs hb k n h
theorem dg_plain : ∀ d, d < 16 → 48 ≤ dg d ∧ dg d < 103 := by decide
theorem figs_plain {b : Nat} (hb : 0 < b) (h : b ≤ 16) : ∀ k n, ∀ c ∈ figs b k n, 48 ≤ c ∧ c < 103
  | 0, _, c, hc => by cases hc
  | k + 1, n, c, hc => by
    unfold figs at hc
    rw [List.mem_append, List.mem_singleton] at hc
    rcases hc with hc | rfl
    · exact figs_plain hb h k _ c hc
    · exact dg_plain _ (Nat.lt_of_lt_of_le (Nat.mod_lt _ hb) h)
theorem cl_fig {b k n : Nat} (hb : 1 < b) (h16 : b ≤ 16) (h : n < b ^ (k + 1)) : Cl (figT b (k + 1) n) := fun c hc => by
  rw [sg_fig hb h] at hc
  have := figs_plain (by omega) h16 _ _ c hc
  omega
theorem blank_not : ∀ c, c < 127 → 33 ≤ c → Unicode.isSpace c = false := by decide +kernel
theorem cl_blank {x : Str} (h : Cl x) {c : Nat} (hc : c ∈ sg x) : Unicode.isSpace c = decide (c = 32) := by
  have := h c hc
  by_cases e : c = 32
  · rw [e]; decide +kernel
  · rw [decide_eq_false e]
    exact blank_not c this.2 (by omega)
end Bm
set_option maxHeartbeats 800000
namespace Bm
open PySem PySem.Spec PyProof.Rows L2
section
variable {X : Cx}
theorem op_inDk (hu : X.A.units + 1 < cLine) : OpR X (compareOp .In) (fun y x H Q => ∃ a o, x = .ref a ∧ DGet H a y o ∧ Q (.bl o.isSome) H) := by
  intro pins s σ H y x v u Q I ry rx h
  obtain ⟨a, o, rfl, g, q⟩ := h
  cases rx
  exact d_in hu I g ry fun s' I' => ⟨.bl o.isSome, H, I', rfl, q⟩
theorem op_notInDk (hu : X.A.units + 1 < cLine) : OpR X (compareOp .NotIn) (fun y x H Q => ∃ a o, x = .ref a ∧ DGet H a y o ∧ Q (.bl (!o.isSome)) H) := by
  intro pins s σ H y x v u Q I ry rx h
  obtain ⟨a, o, rfl, g, q⟩ := h
  cases rx
  exact d_notIn hu I g ry fun s' I' => ⟨.bl (!o.isSome), H, I', rfl, q⟩
/-- d.update(o), o another dict -/
def rDupd : V → List V → Hp → VK → Prop := fun x xs H Q => ∃ (d o : Addr) (kvs more : List (Key × V)), x = .ref d ∧ xs = [.ref o] ∧ d ≠ o ∧ H d = some (.dK kvs) ∧ H o = some (.dK more) ∧ kvs.length + more.length ≤ 1000 ∧ Q .non (upd H d (.dK (mergeK kvs more)))
theorem mt_dupd : MtR X "dict.update" rDupd := by
  intro pins s σ H x xs v us Q I rx rxs h
  obtain ⟨d, o, kvs, more, rfl, rfl, hne, hd, ho, hl, q⟩ := h
  cases rx
  obtain ⟨u, rfl, ru⟩ := rxs.one
  cases ru
  obtain ⟨z1, y1, vs1, rel1, dd1⟩ := dk_of I.hok hd
  obtain ⟨z2, y2, vs2, rel2, dd2⟩ := dk_of I.hok ho
  have e1 := rel1.length
  have e2 := rel2.length
  have hs : (1000 : Nat) ≤ sizeLine := by decide
  refine call_meetsIn PySem.F.slot_dict_update dd1.typeIs PySem.F.entry_dict_update (PySem.F.args_dict_update_2 _ _) (meets_dict_update (mixKind X.prog X.w) d o hne y2)
    ⟨vs1, vs2, dd1, dd2, by omega, fun h' dd' _ sb => ⟨.non, _, ?_, rfl, q⟩⟩
  have he : ∃ q, h'.get? d = some q := let ⟨q, _, _, hq, _⟩ := dd'; ⟨q, hq⟩
  exact d_write I (by rw [hd]; exact True.intro) sb he (dk_new (Nat.le_trans (length_mergeK more kvs) (by omega)) y1 (rel2.merge rel1) dd')
end
end Bm
set_option maxHeartbeats 1000000
namespace Bm
open PySem PySem.Spec PyProof.Rows L2
/-! isinstance of a caught error that has things of its own -/
def rIsX (K : PySem.W.Frag) (D a dd : Addr) : List V → Hp → VK → Prop := fun xs H Q => ∃ (c : V) (cv : Value) (b : Bool) (fs : List (Str × V)), xs = [.ref a, c] ∧ (∀ u, RelV c u → u = cv) ∧ PySem.W.kitOne K (.ref D) cv = some b ∧ H dd = some (.xd fs) ∧ Q (.bl b) H
theorem call_isX {X : Cx} {a D dd : Addr} {oe : Obj} {pn : List (Addr × Obj)} (C : ExcC X.K D) (hz : Zc (.ref D) (some dd) oe) (hf : ∃ vs, oe.data = .fields vs) : CallR (X.suite a ((a, oe) :: pn)) (.builtin "isinstance") (rIsX X.K D a dd) := by
  intro pins s σ H xs us Q I r h
  obtain ⟨c, cv, b, fs, rfl, hcv, e, hd, q⟩ := h
  obtain ⟨u1, us1, rfl, rx, r⟩ : ∃ u1 us1, us = u1 :: us1 ∧ RelV (.ref a) u1 ∧ Vals [c] us1 := by
    cases r with
    | cons h1 h2 => exact ⟨_, _, rfl, h1, h2⟩
  obtain ⟨u2, rfl, rt⟩ := r.one
  obtain rfl : u1 = Value.ref a := rx
  obtain rfl := hcv _ rt
  have hget := (I.pin (a, oe) (List.mem_append_left _ List.mem_cons_self)).1
  obtain ⟨mA, ⟨od, es, ep, ho, _⟩, _⟩ : ∃ mA, s.heap.Ns1 dd mA ∧ ∀ f, RelO (fs.lookup f) (mA f) := I.hok dd _ hd
  obtain ⟨vs, hv⟩ := hf
  have J : PySem.W.InstAt s.heap a oe D (some od) := by
    obtain ⟨k1, k2, k3, k4⟩ := oe
    obtain ⟨h1, h2⟩ := hz
    dsimp only at h1 h2 hv
    subst h1 h2 hv
    exact ⟨hget, rfl, rfl, ho⟩
  obtain ⟨cd, hcd, _⟩ := PySem.W.any_some C.hd
  exact PySem.W.kia_one (PySem.W.kitx_exc (by rw [hcd]; rfl) C.hg C.hk C.hs C.ha C.hn C.ht C.hm) I.kIn J e (fun z => nomatch z) fun tk => ⟨.bl b, H, I.kept (t' := tk) fun _ _ z => z, rfl, q⟩
/-! raising them -/
/-- an error of one number, as a caller knows it -/
structure BadN (P : Program) (w : World) (K : PySem.W.Frag) (mg : Str → Option Value) (base : Heap) (x : Str) (ps : List Str) (sp : Sp) : Prop where
  g : mg x = some (.ref (He.ga K x))
  o : OexC K (He.ga K x)
  f : ∃ (fI : Addr) (fd : FuncData), PySem.W.findIn K (.ref (He.ga K x)) "__init__" = some (some (.ref fI)) ∧ PySem.W.typeIn K (.ref fI) = some (.type "function") ∧ FnOk P w K mg base CX0 1 fI fd ps sp ∧ Binds K fd ps []
/-- what its __init__ does -/
def spIni (C : Addr) (fs : List V → List (Str × V)) (ok : List V → Prop) : Sp := fun vs H Q _ => ∃ (a : Addr) (ws : List V), vs = .ref a :: ws ∧ ok ws ∧ H a = some (exo a C none) ∧ ∀ d H2, H d = none → d ≠ a → H2 a = some (exo a C (some d)) → H2 d = some (exd d (fs ws)) → (∀ b, b ≠ a → b ≠ d → H2 b = H b) → Q .non H2
def tBad (C : Addr) (fs : List V → List (Str × V)) (ok : List V → Prop) (ta : TA) : L2.St → Hp → XK → Prop := fun σ H Q => ta σ H fun vs H1 => vs.length ≤ 1000 ∧ ok vs ∧ ∀ d, H1 d = none → Q (.ref C) (some d) (upd H1 d (.xd (fs vs)))
theorem pmk_bad {X : Cx} {x : Str} {ps : List Str} {fs : List V → List (Str × V)} {ok : List V → Prop} {j : Nat} {e : Expr} {es : List Expr} {ta : TA} {p pos : Pos} (B : BadN X.prog X.w X.K X.mg X.base x ps (spIni (He.ga X.K x) fs ok)) (hr : Room j X.A) (hj : 2 ≤ j) (hg : Gl X x) (ha : PA X (e :: es) ta)
    (hdb : (x == ("__debug__" : Str)) = false := by decide) (he : starEach (e :: es) X.env = (false, eval e X.env) :: starEach es X.env := by rfl) (hpl : (backTo pos (starEach es X.env)).any (·.1) = false := by rfl) :
    PMk X (.Call (.Name x p) (e :: es) [] pos) (tBad (He.ga X.K x) fs ok ta) := by
  obtain ⟨fI, fd, iC, tI, F1, hb⟩ := B.f
  intro pins s σ H Q I h
  have ha2 : PA X (e :: es) (fun σ H R => ∃ R' : List V → Hp → Prop, (∀ vs H1, R' vs H1 → R vs H1) ∧ ta σ H R') := ⟨fun q pn s0 σ0 H0 R I0 ⟨R', im, h0⟩ => thn (ha.run q pn s0 σ0 H0 R' I0 h0) fun us s1 ⟨vs, H1, J, r, z⟩ => ⟨vs, H1, J, r, im _ _ z⟩⟩
  refine pmk_oex (CX := CX0) (k := 1) (dvs := []) (ds := []) B.o iC tI F1 (hr.mono hj) hb .nil pass0 hg B.g ha2 hdb he hpl pins s σ H Q I ⟨_, ?_, h⟩
  rintro vs H1 ⟨hl, hok, hq⟩
  refine ⟨hl, fun a hn => ?_⟩
  rw [List.append_nil]
  refine ⟨a, vs, rfl, hok, upd_same, fun d H2 hd hda e1 e2 e3 => ⟨rfl, d, fs vs, e1, e2, ?_, ?_⟩⟩
  · rw [upd_ne hda] at hd
    exact hd
  · rw [upd_ne hda] at hd
    have eu : upd (L2.del H2 a) d (.xd (fs vs)) = upd H1 d (.xd (fs vs)) := by
      funext b
      by_cases hb : b = d
      · rw [hb, upd_same, upd_same]
      · rw [upd_ne hb, upd_ne hb]
        by_cases hba : b = a
        · rw [hba, del_same, hn]
        · rw [del_ne hba, e3 b hba hb, upd_ne hba]
    rw [eu]
    exact hq d hd
end Bm
set_option maxHeartbeats 1000000
namespace Bm
open PySem PySem.Spec PyProof.Rows L2
def fsNum : List V → List (Str × V) := fun ws => ws.map fun v => ("number", v)
def okNum : List V → Prop := fun ws => ∃ n : Int, ws = [.int n] ∧ n.natAbs.log2 < 1920
section
variable {P : Program} {w : World} {K : PySem.W.Frag} {mg : Str → Option Value} {base : Heap}
theorem app_len (a b : Str) : (a ++ b).length = a.length + b.length := Array.size_append ..
theorem fit2 {a : Str} {n : Int} (h : a.length ≤ 100) (hn : n.natAbs.log2 < 1920) : (Str.empty ++ a).length ≤ sizeLine ∧ ((Str.empty ++ a) ++ (PySem.Str.ofString (toString n))).length ≤ sizeLine := by
  have e : (Str.empty).length = 0 := rfl
  have e1 := int_text_len_1921 hn
  rw [app_len (Str.empty ++ a), app_len, e]
  exact ⟨line5 (by omega), line5 (by omega)⟩
theorem ini_BadImage (S : SupI P K "BadImage" "BadImage.__init__" s_init_BadImage) (hm : mg "super" = none) (hno : PySem.W.findIn K (.ref (He.ga K "BadImage")) "number" = some none) (g : mg "BadImage" = some (.ref (He.ga K "BadImage"))) : BadN P w K mg base "BadImage" ["self", "number"] (spIni (He.ga K "BadImage") fsNum okNum) := by
  obtain ⟨⟨cell, cda, kV, doc, pm, ct, an, F, hcd⟩, T, hi, ht⟩ := S
  refine ⟨g, T, _, _, hi, ht, init_fn2 (N := ["self", "number", "__class__"]) (ps := ["self", "number"]) (k := 0) (e := _) (rest := _) rfl F T hcd (NdefX.nscope_by (by decide +kernel)) rfl rfl rfl rfl hm (fun _ => rfl) (fun vs H Q E h => ?_) (fun A outer s H vs Q E h => ?_), .all fun us hl => match us, hl with | [_, _], _ => rfl⟩
  · obtain ⟨a, ws, rfl, ⟨n, rfl, _⟩, _⟩ := h
    rfl
  · obtain ⟨a, ws, rfl, ⟨n, rfl, hn⟩, ha, q⟩ := h
    refine ⟨_, _, a, _, rfl, ha, pe_joined (.cons pe_str (.cons (pe_fmt (pv 1)) .nil)), pss_one (ps_ost (pv 0) (pv 1)), rfl, rfl, rfl, ?_⟩
    refine ⟨_, rfl, (fit2 (by decide +kernel) hn).1, _, rfl, .inr ⟨n, rfl, hn, _, rfl, (fit2 (by decide +kernel) hn).2, Nat.le_refl _, ha, ?_⟩⟩
    refine ⟨_, rfl, _, rfl, a, _, rfl, T, hno, .inl ⟨ha, fun d hd hda => q d _ hd hda upd_same ?_ fun b h1 h2 => ?_⟩⟩
    · rw [upd_ne hda]
      exact upd_same
    · rw [upd_ne h1, upd_ne h2]
end
end Bm
set_option maxHeartbeats 800000
namespace Bm
open PySem PySem.Spec PyProof.Rows L2
theorem Same.none {H H' : Hp} {p : Addr} (e : Same H H') (h : H' p = none) : H p = none := by
  cases q : H p with
  | none => rfl
  | some o =>
    rw [e p o q] at h
    cases h
section
variable {P : Program} {w : World} {K : PySem.W.Frag} {mg : Str → Option Value} {base : Heap} {f : Addr} {fd : FuncData} {dvs : List V}
abbrev KnWr (P : Program) (w : World) (K : PySem.W.Frag) (mg : Str → Option Value) (base : Heap) : Prop := Kn P w K mg base CX0 3 "first_wrong" ["row", "most"] [] (spWrong K)
def GoodI (ws : List Int) : Prop := ws.length ≤ 200 ∧ ∀ x ∈ ws, isW x = true
/-- the first thing of a row that may not be: no word, or one more than m -/
def BadAt (m : Nat) (ws : List Int) (j : Nat) : Prop := j < ws.length ∧ (j = m ∨ ∃ x, ws[j]? = some x ∧ isW x = false) ∧ ∀ i x, i < j → ws[i]? = some x → i ≠ m ∧ isW x = true
theorem BadAt.le {m j : Nat} {ws : List Int} (h : BadAt m ws j) : j ≤ m := by
  cases Nat.lt_or_ge m j with
  | inl q =>
    have hm : m < ws.length := Nat.lt_trans q h.1
    exact absurd rfl (h.2.2 m _ q (List.getElem?_eq_getElem hm)).1
  | inr q => exact q
theorem all_good {m : Nat} {ws : List Int} (h : ∀ (i : Nat) (x : Int), ws[i]? = some x → i ≠ m ∧ isW x = true) : ws.length ≤ m ∧ ∀ x ∈ ws, isW x = true := by
  refine ⟨?_, fun x hx => ?_⟩
  · cases Nat.lt_or_ge m ws.length with
    | inl q => exact absurd rfl (h m _ (List.getElem?_eq_getElem q)).1
    | inr q => exact q
  · obtain ⟨i, hi⟩ := List.mem_iff_getElem?.mp hx
    exact (h i x hi).2
theorem small_log {j : Nat} (h : j ≤ 100000) : ((j : Nat) : Int).natAbs.log2 < 1920 := by
  rw [Int.natAbs_natCast]
  have h1 : j.log2 ≤ j := Nat.log2_le_self j
  cases Nat.eq_zero_or_pos j with
  | inl e => rw [e]; decide
  | inr e =>
    have h2 : 2 ^ j.log2 ≤ j := Nat.log2_self_le (by omega)
    cases Nat.lt_or_ge j.log2 17 with
    | inl q => omega
    | inr q =>
      have h3 : 2 ^ 17 ≤ 2 ^ j.log2 := Nat.pow_le_pow_right (by decide) q
      omega
/-! checked_image -/
abbrev BadIm (P : Program) (w : World) (K : PySem.W.Frag) (mg : Str → Option Value) (base : Heap) : Prop := BadN P w K mg base "BadImage" ["self", "number"] (spIni (He.ga K "BadImage") fsNum okNum)
/-- raised: the error of this number, at a new dict -/
def RaisedNo (K : PySem.W.Frag) (x : Str) (E : XK) (H : Hp) (j : Nat) : Prop := ∀ d H', Same H H' → H d = none → H' d = some (.xd [("number", .int (j : Nat))]) → E (.ref (He.ga K x)) (some d) H'
def spImg (K : PySem.W.Frag) : Sp := fun vs H Q E => ∃ (a : Addr) (ws : List Int), vs = [.ref a] ∧ (SqL K H a (vInts ws) ∨ SqT K H a (vInts ws)) ∧ (GoodI ws → ∀ t H', Same H H' → SqT K H' t (vInts ws) → Q (.ref t) H') ∧ (∀ j, BadAt 200 ws j → RaisedNo K "BadImage" E H j)
abbrev N_checked_image : List Str := ["image", "wrong"]
theorem sc_checked_image : FnScope ["image", "wrong"] ["image"] (defScope s_checked_image) := ⟨rfl, rfl, rfl, by decide +kernel, rfl, by decide +kernel, by decide +kernel⟩
theorem ok_img (F : FnP K "checked_image" s_checked_image dvs f fd) (k_first_wrong : KnWr P w K mg base) (g_tuple : mg "tuple" = none) (gm : ∃ t, mg "IMAGE_MOST" = some (.int 200 t)) (b_BadImage : BadIm P w K mg base) : FnOk P w K mg base (L2.CX P w) 4 f fd ["image"] (spImg K) := by
  refine F.ok sc_checked_image (fun vs H Q E h => ?_) (fun cdv A outer s H vs Q E hr h => ?_)
  · obtain ⟨a, ws, rfl, _⟩ := h
    rfl
  · obtain ⟨a, ws, rfl, hS, q, qe⟩ := h
    obtain ⟨tk, g_IMAGE_MOST⟩ := gm
    let v_IMAGE_MOST : Int := 200
    refine ⟨_, (pss_cons (ps_set (i := 1) sc_checked_image.nd rfl (Or.inl rfl) (pk k_first_wrong hr (by decide) rfl pass0 (pa_cons (pv 0) (pa_cons (pe_glob (v := .int v_IMAGE_MOST) rfl g_IMAGE_MOST ⟨_, rfl⟩) pa_nil))))
      (pss_cons (ps_if (pt_cmpR op_notN (pv 1) pe_non (nomark _)) (pss_one (ps_raise rfl (takes_of rfl rfl rfl rfl) (pmk_bad b_BadImage hr (by decide) rfl (pa_cons (pv 1) pa_nil)))) pss_nil)
      (pss_one (ps_ret (pe_callTy call_tuple_of rfl g_tuple (by decide +kernel) (pa_cons (pv 0) pa_nil)))))), ?_⟩
    refine ⟨_, rfl, a, ws, 200, rfl, hS, fun j H1 s1 hj hw hb => ?_, fun hall H1 s1 => ?_⟩
    · have hB : BadAt 200 ws j := ⟨hj, hw, hb⟩
      refine ⟨_, rfl, rfl, _, rfl, ?_⟩
      show if (!decide (V.int (j : Nat) = V.non)) = true then _ else _
      rw [show (!decide (V.int (j : Nat) = V.non)) = true from congrArg Bool.not (decide_eq_false (by simp))]
      refine iteT ⟨_, rfl, Nat.le_succ_of_le (by simp), ⟨_, rfl, small_log (Nat.le_trans hB.le (by decide))⟩, fun d hd => ?_⟩
      exact qe j hB d _ (Same.trans s1 (Same.add hd)) (Same.none s1 hd) upd_same
    · refine ⟨_, rfl, rfl, _, rfl, ?_⟩
      show if (!decide (V.non = V.non)) = true then _ else _
      rw [show (!decide (V.non = V.non)) = false from congrArg Bool.not (decide_eq_true rfl)]
      refine iteF ⟨_, rfl, a, vInts ws, rfl, ?_⟩
      have hg : GoodI ws := all_good hall
      rcases hS with hS | hS
      · exact .inl ⟨s1.seq hS, fun t ht => q hg t _ (Same.trans s1 (Same.add ht)) (SqT.of upd_same)⟩
      · exact .inr ⟨Same.tup s1 hS, q hg a H1 s1 (Same.tup s1 hS)⟩
end
end Bm
set_option maxHeartbeats 800000
namespace Bm
open PySem PySem.Spec PyProof.Rows L2
def gv (o : Option De) : V := match o.bind De.goal with
  | none => .non
  | some g => .int g
theorem sg_not : ∀ k, k < 7 → inV (.str (nm SG k)) [.str "jump", .str "call"] = false := by decide +kernel
theorem sm_not : ∀ k, k < 8 → inV (.str (nm SM k)) [.str "jump", .str "call"] = false := by decide +kernel
theorem gn_plus : inV (.str "plus") [.str "jump", .str "call"] = false := by decide +kernel
theorem gn_set : inV (.str "set") [.str "jump", .str "call"] = false := by decide +kernel
theorem gn_high : inV (.str "high") [.str "jump", .str "call"] = false := by decide +kernel
theorem gn_load : inV (.str "load") [.str "jump", .str "call"] = false := by decide +kernel
theorem gn_store : inV (.str "store") [.str "jump", .str "call"] = false := by decide +kernel
theorem gn_jump : inV (.str "jump") [.str "jump", .str "call"] = true := by decide +kernel
theorem gn_call : inV (.str "call") [.str "jump", .str "call"] = true := by decide +kernel
theorem head_goes {d : De} (h : d.ok) : ∃ z r, d.vals = .str z :: r ∧ inV (.str z) [.str "jump", .str "call"] = d.goal.isSome := by
  cases d with
  | sgl k => exact ⟨_, _, rfl, sg_not k (Nat.lt_trans h (by decide))⟩
  | reg k a => exact ⟨_, _, rfl, sg_not k h.2.1⟩
  | sum k d a b => exact ⟨_, _, rfl, sm_not k h.1⟩
  | plus d a n => exact ⟨_, _, rfl, gn_plus⟩
  | set d n => exact ⟨_, _, rfl, gn_set⟩
  | high d n => exact ⟨_, _, rfl, gn_high⟩
  | load d a n => exact ⟨_, _, rfl, gn_load⟩
  | store d a n => exact ⟨_, _, rfl, gn_store⟩
  | jump k g f => exact ⟨_, _, rfl, gn_jump⟩
  | call g f => exact ⟨_, _, rfl, gn_call⟩
theorem goal_at {d : De} {g : Int} (h : d.goal = some g) : atI d.vals (-2) = some (.int g) := by
  cases d with
  | jump k g' f =>
    cases h
    rfl
  | call g' f =>
    cases h
    rfl
  | _ => cases h
theorem iteT' {c : Bool} {A B : Prop} (h : c = true) (a : A) : if c = true then A else B := by rw [if_pos h]; exact a
theorem iteF' {c : Bool} {A B : Prop} (h : c = false) (b : B) : if c = true then A else B := by rw [h]; exact b
section
variable {P : Program} {w : World} {K : PySem.W.Frag} {mg : Str → Option Value} {base : Heap} {f : Addr} {fd : FuncData} {dvs : List V}
def spGoal (K : PySem.W.Frag) : Sp := fun vs H Q _ => ∃ (v : V) (o : Option De), vs = [v] ∧ VD K H v o ∧ (∀ d, o = some d → d.ok) ∧ ∀ H', Same H H' → Q (gv o) H'
abbrev N_goal_of : List Str := ["deed"]
theorem sc_goal_of : FnScope ["deed"] ["deed"] (defScope s_goal_of) := ⟨rfl, rfl, rfl, by decide +kernel, rfl, by decide +kernel, by decide +kernel⟩
theorem ok_goal (F : FnP K "goal_of" s_goal_of dvs f fd) : FnOk P w K mg base CX0 1 f fd ["deed"] (spGoal K) := by
  refine F.ok sc_goal_of (fun vs H Q E h => ?_) (fun cdv A outer s H vs Q E hr h => ?_)
  · obtain ⟨v, o, rfl, _⟩ := h
    rfl
  · obtain ⟨v, o, rfl, hv, hok, q⟩ := h
    refine ⟨_, PSs.nox (pss_cons (ps_if (PW.pt (pw_or (pt_cmpR op_isN (pv 0) pe_non (nomark _)) (pw_or1 (pt_cmpR op_notIn_seq (pe_ix ix_tup (pv 0) pe_int (fun _ _ => rfl)) (pe_tup (pa_cons pe_str (pa_cons pe_str pa_nil))) rfl)))) (pss_one (ps_ret pe_non)) pss_nil)
      (pss_one (ps_ret (pe_ix ix_tup (pv 0) (pe_un un_neg pe_int) (fun _ _ => rfl))))), ?_⟩
    refine ⟨_, rfl, rfl, _, rfl, ?_⟩
    cases o with
    | none =>
      obtain rfl : v = .non := hv
      show if decide (V.non = V.non) = true then _ else _
      rw [decide_eq_true rfl]
      exact iteT (iteT (q H (Same.refl H)))
    | some d =>
      obtain ⟨pd, rfl, hS⟩ := hv
      show if decide (V.ref pd = V.non) = true then _ else _
      rw [decide_eq_false (by simp)]
      refine iteF ?_
      obtain ⟨z, r, e1, e2⟩ := head_goes (hok d rfl)
      refine ⟨_, rfl, pd, _, _, _, rfl, rfl, hS, by rw [e1]; exact at0, line5 (by simp), fun p hp => ?_⟩
      have s1 : Same H (upd H p (.tup [V.str "jump", V.str "call"])) := Same.add hp
      have h1 : (upd H p (.tup [V.str "jump", V.str "call"])) p = some (.tup [V.str "jump", V.str "call"]) := upd_same
      generalize upd H p (.tup [V.str "jump", V.str "call"]) = H1 at s1 h1 ⊢
      refine ⟨p, _, rfl, .inr (SqT.of h1), rfl, rfl, _, rfl, ?_⟩
      cases hg : d.goal with
      | none =>
        rw [hg] at e2
        have e3 : inV (.str z) [.str "jump", .str "call"] = false := e2
        refine iteT' (show (if (true : Bool) = true then !inV (V.str z) [.str "jump", .str "call"] else inV (V.str z) [.str "jump", .str "call"]) = true by rw [if_pos rfl, e3]; rfl) ?_
        have := q H1 s1
        unfold gv at this
        simp only [Option.bind_some, hg] at this
        exact this
      | some g =>
        rw [hg] at e2
        have e3 : inV (.str z) [.str "jump", .str "call"] = true := e2
        refine iteF' (show (if (true : Bool) = true then !inV (V.str z) [.str "jump", .str "call"] else inV (V.str z) [.str "jump", .str "call"]) = false by rw [if_pos rfl, e3]; rfl) ?_
        refine ⟨_, rfl, _, rfl, pd, _, _, _, rfl, rfl, Same.tup s1 hS, goal_at hg, ?_⟩
        have := q H1 s1
        unfold gv at this
        simp only [Option.bind_some, hg] at this
        exact this
abbrev KnGo (P : Program) (w : World) (K : PySem.W.Frag) (mg : Str → Option Value) (base : Heap) : Prop := Kn P w K mg base CX0 1 "goal_of" ["deed"] [] (spGoal K)
abbrev KnMt (P : Program) (w : World) (K : PySem.W.Frag) (mg : Str → Option Value) (base : Heap) : Prop := Kn P w K mg base CX0 5 "deeds_met" ["words"] [] (spMet K)
abbrev KnIm (P : Program) (w : World) (K : PySem.W.Frag) (mg : Str → Option Value) (base : Heap) : Prop := Kn P w K mg base (L2.CX P w) 4 "checked_image" ["image"] [] (spImg K)
end
end Bm
set_option maxHeartbeats 800000
namespace Bm
open PySem PySem.Spec PyProof.Rows L2
/-- the number of a goal: that of the deed at it, or how many there are for the place behind all -/
def IsNo (ws : List Int) (g : Int) (j : Nat) : Prop := (∃ m, (met ws)[j]? = some m ∧ (m.1 : Int) = g) ∨ (j = (met ws).length ∧ g = (ws.length : Int))
theorem sw_sorted {ws : List Int} : ∀ n, (∀ (j : Nat) m, (sw ws n).2[j]? = some m → m.1 < (sw ws n).1 ∧ m.1 < ws.length ∧ m.2 = atD ws m.1) ∧ ∀ (i j : Nat) a b, i < j → (sw ws n).2[i]? = some a → (sw ws n).2[j]? = some b → a.1 < b.1
  | 0 => ⟨fun j m h => by simp [sw] at h, fun i j a b _ h => by simp [sw] at h⟩
  | n + 1 => by
    obtain ⟨h1, h2⟩ := @sw_sorted ws n
    rw [sw_succ]
    by_cases c : (sw ws n).1 < ws.length
    · rw [if_pos c]
      have hf := sizeO_fit c
      have at_ : ∀ (j : Nat) m, ((sw ws n).2 ++ [((sw ws n).1, atD ws (sw ws n).1)])[j]? = some m → (sw ws n).2[j]? = some m ∨ (j = (sw ws n).2.length ∧ m = ((sw ws n).1, atD ws (sw ws n).1)) := fun j m h => by
        cases Nat.lt_or_ge j (sw ws n).2.length with
        | inl q =>
          rw [List.getElem?_append_left q] at h
          exact .inl h
        | inr q =>
          rw [List.getElem?_append_right q] at h
          cases e : j - (sw ws n).2.length with
          | zero =>
            rw [e] at h
            exact .inr ⟨by omega, (Option.some.inj h).symm⟩
          | succ k =>
            rw [e] at h
            simp at h
      refine ⟨fun j m h => ?_, fun i j a b hij ha hb => ?_⟩
      · rcases at_ j m h with z | ⟨_, rfl⟩
        · have := h1 j m z
          exact ⟨by show m.1 < (sw ws n).1 + _; omega, this.2⟩
        · exact ⟨by show (sw ws n).1 < (sw ws n).1 + _; omega, c, rfl⟩
      · rcases at_ j b hb with zb | ⟨ej, rfl⟩
        · rcases at_ i a ha with za | ⟨ei, _⟩
          · exact h2 i j a b hij za zb
          · have := (List.getElem?_eq_some_iff.mp zb).1
            omega
        · rcases at_ i a ha with za | ⟨ei, _⟩
          · exact (h1 i a za).1
          · omega
    · rw [if_neg c]
      exact ⟨h1, h2⟩
theorem met_at {ws : List Int} {j : Nat} {m : Nat × Option De} (h : (met ws)[j]? = some m) : m.1 < ws.length ∧ m.2 = atD ws m.1 := ((@sw_sorted ws _).1 j m h).2
theorem met_mono {ws : List Int} {i j : Nat} {a b : Nat × Option De} (h : i < j) (ha : (met ws)[i]? = some a) (hb : (met ws)[j]? = some b) : a.1 < b.1 := (@sw_sorted ws _).2 i j a b h ha hb
/-- rows of tuples -/
inductive TupsV (K : PySem.W.Frag) (H : Hp) : List V → List (List V) → Prop
  | nil : TupsV K H [] []
  | cons {p : Addr} {l : List V} {vs : List V} {ls : List (List V)} : SqT K H p l → TupsV K H vs ls → TupsV K H (.ref p :: vs) (l :: ls)
theorem TupsV.map {K : PySem.W.Frag} {H H' : Hp} (f : ∀ a xs, SqT K H a xs → SqT K H' a xs) : ∀ {vs : List V} {ls : List (List V)}, TupsV K H vs ls → TupsV K H' vs ls
  | _, _, .nil => .nil
  | _, _, .cons h t => .cons (f _ _ h) (t.map f)
theorem TupsV.snoc {K : PySem.W.Frag} {H : Hp} {p : Addr} {l : List V} (h : SqT K H p l) : ∀ {vs : List V} {ls : List (List V)}, TupsV K H vs ls → TupsV K H (vs ++ [.ref p]) (ls ++ [l])
  | _, _, .nil => .cons h .nil
  | _, _, .cons a b => .cons a (TupsV.snoc h b)
theorem TupsV.len {K : PySem.W.Frag} {H : Hp} : ∀ {vs : List V} {ls : List (List V)}, TupsV K H vs ls → vs.length = ls.length
  | _, _, .nil => rfl
  | _, _, .cons _ t => congrArg Nat.succ t.len
noncomputable def knownV (ws : List Int) : List V := (met ws).map (fun m => V.int (m.1 : Nat)) ++ [.int (ws.length : Nat)]
theorem known_at {ws : List Int} {j : Nat} {v : V} : (knownV ws)[j]? = some v ↔ ∃ g, v = .int g ∧ IsNo ws g j := by
  unfold knownV
  constructor
  · intro h
    cases Nat.lt_or_ge j (met ws).length with
    | inl c =>
      rw [List.getElem?_append_left (by rw [List.length_map]; exact c), List.getElem?_map] at h
      cases e : (met ws)[j]? with
      | none => rw [e] at h; cases h
      | some m =>
        rw [e] at h
        exact ⟨_, (Option.some.inj h).symm, .inl ⟨m, e, rfl⟩⟩
    | inr c =>
      rw [List.getElem?_append_right (by rw [List.length_map]; exact c), List.length_map] at h
      cases e : j - (met ws).length with
      | zero =>
        rw [e] at h
        exact ⟨_, (Option.some.inj h).symm, .inr ⟨by omega, rfl⟩⟩
      | succ k =>
        rw [e] at h
        simp at h
  · rintro ⟨g, rfl, ⟨m, hm, rfl⟩ | ⟨rfl, rfl⟩⟩
    · rw [List.getElem?_append_left (by rw [List.length_map]; exact (List.getElem?_eq_some_iff.mp hm).1), List.getElem?_map, hm]
      rfl
    · rw [List.getElem?_append_right (by rw [List.length_map]; exact Nat.le_refl _), List.length_map, Nat.sub_self]
      rfl
theorem known_flat (ws : List Int) : (knownV ws).all flatV = true := by
  rw [List.all_eq_true]
  intro v hv
  obtain ⟨j, hj⟩ := List.mem_iff_getElem?.mp hv
  obtain ⟨g, rfl, _⟩ := known_at.mp hj
  rfl
theorem known_in (ws : List Int) (g : Int) : inV (.int g) (knownV ws) = true ↔ ∃ j, IsNo ws g j := by
  unfold inV
  rw [List.any_eq_true]
  constructor
  · rintro ⟨v, hv, e⟩
    obtain ⟨j, hj⟩ := List.mem_iff_getElem?.mp hv
    obtain ⟨g2, rfl, hn⟩ := known_at.mp hj
    have : g2 = g := by simpa [eqV] using e
    exact ⟨j, this ▸ hn⟩
  · rintro ⟨j, hj⟩
    exact ⟨.int g, List.mem_iff_getElem?.mpr ⟨j, known_at.mpr ⟨g, rfl, hj⟩⟩, by simp [eqV]⟩
end Bm
set_option maxHeartbeats 1000000
namespace Bm
open PySem PySem.Spec PyProof.Rows L2
section
variable {X : Cx}
abbrev BlkX (X : Cx) (sc : Scope) (s : Shared) (H : Hp) (C : Addr) (cl : List (Str × Addr)) (fp : List Addr) : Cx := X.blk s H sc (compEnvC sc cl C X.env) fp
/-- y = {k: v for ..}, y a local name -/
theorem ps_setDc {i : Nat} {y : Str} {py : Pos} {ka va tgt src : Expr} {cs : List Expr} {sc : Scope} {own : List (Str × Nat)} {p sp : Pos} {wi : TI} {g : TG} {tt : TT} {tk tv : TE} (calm : X.calm = true) (nd : X.N.Nodup) (at_ : X.N[i]? = some y) (loc : X.env.scope.names.lookup y = some .local)
    (sw : swapsWith (.DictComp ka va [⟨tgt, src, cs, 0⟩] sc p) (some (.Name y py)) sp.line X.env = pure true) (pi : PI X tgt src wi) (blk : BlkOk X.N X.env.scope sc own)
    (pg : ∀ s H C cl fp, PG (BlkX X sc s H C cl fp) tgt g) (pt : ∀ s H C cl fp, PTs (BlkX X sc s H C cl fp) cs tt) (pk : ∀ s H C cl fp, PE (BlkX X sc s H C cl fp) ka tk) (pv : ∀ s H C cl fp, PE (BlkX X sc s H C cl fp) va tv)
    (fo : ∀ x, foldedSetIterable src X.env x = pure x := by intro _; rfl) :
    PS X (.Assign [.Name y py] (.DictComp ka va [⟨tgt, src, cs, 0⟩] sc p) sp) (tAsg (tDc wi g tt tk tv (own.map fun z => z.2)) (gName i)) := by
  constructor
  intro pins s σ H D I h
  rw [exec_Assign_Name_used y py _ sp sw]
  have h0 : tDc wi g tt tk tv (own.map fun z => z.2) σ H (fun x G => gName i x σ G D.nx) := h
  have core := dc_core (pos := p) (pos' := firstIterPos [⟨tgt, src, cs, 0⟩] p) (use := some (assign (.Name y py) X.env)) (Qf := fun _ s2 => SP X pins D .next s2) calm nd I pi blk pg pt pk pv fo h0 ?post
  · exact wpAny_bind (wpAny_standAt (wpAny_bind (show wpAny _ X.A (do let _ ← comprehension (.DictComp ka va [⟨tgt, src, cs, 0⟩] sc p) sc X.env (firstIterPos [⟨tgt, src, cs, 0⟩] p) newDict false (eval src X.env) (some (assign (.Name y py) X.env))) _ _ s from
      wpAny_bind (thn core fun _ s2 q => wpAny_pure (wpAny_pure q)))))
  · intro L C s2 m G J q hn f
    obtain ⟨f0, f1, f2, f3, f4, f5⟩ := f
    show wpAny _ _ (assign (.Name y py) X.env (.ref L)) _ _ _
    refine wpAny_assign_Name (store_ok2 (v := V.ref L) J nd at_ (.inl loc) rfl (fun s3 J3 ex => ?_) (.inr loc))
    obtain ⟨a, sb, ha⟩ := ex
    have nC : C ≠ a := ha.elim (fun z => z ▸ f1) (fun z e => f4 y a z e.symm)
    exact ⟨m, hn.sameBut sb nC, fun h4 sb4 => ⟨_, G, J3.turned (t' := s3.toks) (fun b o nb e => (sb4.2 b nb).trans e) f0 f1 f3 f4 f5, q⟩⟩
theorem sw_trueD {ka va : Expr} {gs : List Comprehension} {sc : Scope} {p py : Pos} {y : Str} {l : Nat} {env : Env} (hk : env.scope.kind = .function) (hy : env.scope.names.lookup y = some .local) (hl : (py.line == p.line) = true)
    (ha : (sc.names.any fun (n, k) => n == y && (k == .local || k == .cell)) = false) : swapsWith (.DictComp ka va gs sc p) (some (.Name y py)) l env = pure true := by
  have e1 : env.kindOf y = some .local := hy
  unfold swapsWith
  have e3 : env.blockKind = ScopeKind.function := (if_neg (by rw [hk]; decide)).trans hk
  have e4 : (Expr.DictComp ka va gs sc p).pos = p := rfl
  simp only [e1, ha]
  rw [e3, e4, hl]
  rfl
end
section
variable {J : It} {n : Nat} {G : Hp → Prop} {Y : Nat → Hp → V → Hp → Prop}
/-- a dict comprehension over what is walked -/
theorem dc_it (wk : Walk J n G Y) {g : TG} {tt : TT} {tk tv : TE} {vs : List Nat} {σ : L2.St} {H1 : Hp} {D : Addr} {Qd : Hp → Prop} (Pv : Nat → Hp → Prop) (h0 : Pv 0 (upd H1 D (.dK []))) (hG : ∀ i H, i ≤ n → Pv i H → G H)
    (hs : ∀ i x H H', i < n → Pv i H → Y i H x H' → g x (wipe σ vs) H' fun σ2 H2 => wipe σ2 vs = wipe σ vs ∧ tt σ2 H2 fun b H3 =>
      if b = true then tk σ2 H3 fun y H4 => tv σ2 H4 fun z H5 => ∃ kvs k, y = kV k ∧ H5 D = some (.dK kvs) ∧ kvs.length < sizeLine ∧ Pv (i + 1) (upd H5 D (.dK (putK kvs k z))) else Pv (i + 1) H3) (hd : ∀ H, Pv n H → Qd H) :
    ∃ W : Nat → Nat → Hp → Prop, (∃ m, W 0 m (upd H1 D (.dK []))) ∧ ∀ i m H, W i m H →
      (J.stop i H ∧ Qd H) ∨ (J.go i H ∧ ∃ Nx : Hp → Prop, (∀ H', Nx H' → ∃ m', m' < m ∧ W (i + 1) m' H') ∧ ∀ x H', J.yld i H x H' → g x (wipe σ vs) H' fun σ2 H2 => wipe σ2 vs = wipe σ vs ∧ tt σ2 H2 fun b H3 =>
        if b = true then tk σ2 H3 fun y H4 => tv σ2 H4 fun z H5 => ∃ kvs k, y = kV k ∧ H5 D = some (.dK kvs) ∧ kvs.length < sizeLine ∧ Nx (upd H5 D (.dK (putK kvs k z))) else Nx H3) := by
  refine ⟨fun i m H => i ≤ n ∧ m = n - i ∧ Pv i H, ⟨n, Nat.zero_le _, rfl, h0⟩, fun i m H w => ?_⟩
  obtain ⟨hi, hm, hp⟩ := w
  have hG' := hG i H hi hp
  cases Nat.lt_or_eq_of_le hi with
  | inl c => exact .inr ⟨wk.goes i H c hG', Pv (i + 1), fun H' z => ⟨n - (i + 1), by omega, c, rfl, z⟩, fun x H' y => hs i x H H' c hp (wk.yields i H x H' c hG' y)⟩
  | inr c =>
    rw [c] at hp ⊢
    exact .inl ⟨wk.stops H (hG n H (Nat.le_refl _) hp), hd H hp⟩
end
end Bm
set_option maxHeartbeats 1000000
/-! dicts of truths whose keys may be None -/
namespace Bm
open PySem PySem.Spec PyProof.Rows L2
abbrev NK := Option Key
instance nkDec : DecidableEq NK := inferInstanceAs (DecidableEq (Option Key))
def kN : NK → V
  | none => .non
  | some k => kV k
theorem kN_is (P : Program) (w : World) {k : NK} {u : Value} (r : RelV (kN k) u) : (noneKind P w).is k u = true := by
  cases k with
  | none => cases (show u = Value.none from r); rfl
  | some k => exact kV_is (P := P) (w := w) r
def nkE (k : NK) : NK × Value := (k, .bool true)
def ndP (P : Program) (w : World) (a : Addr) (ks : List NK) (h : Heap) : Prop := (a == sysModules) = false ∧ ks.length ≤ 10000 ∧ h.DictOf (noneKind P w) a (ks.map nkE)
def NdO (P : Program) (w : World) (a : Addr) (ks : List NK) : HO := .ext (ndP P w a ks)
theorem nd_ok {P : Program} {w : World} {H : Hp} {h : Heap} {a : Addr} {ks : List NK} (p : ndP P w a ks h) : ObjOk P w H h a (NdO P w a ks) := by
  have p0 := p
  obtain ⟨hd, hl, o, es, ep, h1, h2, h3, h4, h5, h6⟩ := p
  exact ⟨p0, ⟨o, h1⟩, fun g1 g2 q st => by
    obtain ⟨i1, i2, o', es', ep', j1, j2⟩ := q
    exact ⟨i1, i2, o', es', ep', st _ j1, j2⟩⟩
def hasN (ks : List NK) (k : NK) : Bool := ks.any fun x => decide (x = k)
theorem hasN_iff {ks : List NK} {k : NK} : hasN ks k = true ↔ k ∈ ks := by
  unfold hasN
  rw [List.any_eq_true]
  exact ⟨fun ⟨x, h, e⟩ => by rw [← of_decide_eq_true e]; exact h, fun h => ⟨k, h, decide_eq_true rfl⟩⟩
def putN (ks : List NK) (k : NK) : List NK := if hasN ks k = true then ks else ks ++ [k]
theorem stored_nk (ks : List NK) (k : NK) : stored (ks.map nkE) k (.bool true) = (putN ks k).map nkE := by
  unfold stored putN
  by_cases c : k ∈ ks
  · rw [if_pos (hasN_iff.mpr c), if_pos (List.any_eq_true.mpr ⟨nkE k, List.mem_map_of_mem c, decide_eq_true rfl⟩), List.map_map]
    refine List.map_congr_left fun x _ => ?_
    show (if (nkE x).1 = k then ((nkE x).1, Value.bool true) else nkE x) = nkE x
    split <;> rfl
  · have n : ¬ ((ks.map nkE).any fun kv => kv.1 = k) = true := fun z => by
      obtain ⟨x, hx, e⟩ := List.any_eq_true.mp z
      obtain ⟨y, hy, rfl⟩ := List.mem_map.mp hx
      exact c (by rw [← of_decide_eq_true e]; exact hy)
    rw [if_neg (fun z => c (hasN_iff.mp z)), if_neg n, List.map_append]
    rfl
theorem putN_len (ks : List NK) (k : NK) : (putN ks k).length ≤ ks.length + 1 := by
  unfold putN
  split
  · omega
  · rw [List.length_append]; exact Nat.le_refl _
theorem at_nk (ks : List NK) (k : NK) : (valueAt (ks.map nkE) k).isSome = hasN ks k := by
  unfold valueAt
  rw [Option.isSome_map, Bool.eq_iff_iff, List.find?_isSome, hasN_iff]
  constructor
  · rintro ⟨x, hx, e⟩
    obtain ⟨y, hy, rfl⟩ := List.mem_map.mp hx
    rw [← of_decide_eq_true e]
    exact hy
  · exact fun h => ⟨nkE k, List.mem_map_of_mem h, decide_eq_true rfl⟩
/-- a dict of ints and texts, seen as one that could have None -/
theorem nd_of {P : Program} {w : World} {h : Heap} {a : Addr} {vs : List (Key × Value)} (d : h.DictOf (mixKind P w) a vs) : h.DictOf (noneKind P w) a (vs.map fun x => (some x.1, x.2)) := by
  obtain ⟨o, es, ep, h1, h2, h3, h4, h5, h6⟩ := d
  refine ⟨o, es, ep, h1, h2, h3, fun e he => ?_, ?_, ?_⟩
  · obtain ⟨k, k1, k2⟩ := h4 e he
    exact ⟨some k, k1, k2⟩
  · clear h1 h2 h3 h4 h6
    generalize es.toList = el at h5 ⊢
    induction h5 with
    | nil => exact .nil
    | cons a b _ ih => exact .cons a b ih
  · rw [List.map_map]
    have e : (vs.map ((fun x : NK × Value => x.1) ∘ fun x : Key × Value => (some x.1, x.2))) = (vs.map (·.1)).map some := by rw [List.map_map]; rfl
    rw [e]
    exact List.Pairwise.map _ (fun _ _ n z => n (Option.some.inj z)) h6
section
variable {X : Cx} {pins : List (Addr × Obj)} {σ : L2.St} {H : Hp} {s : Shared} {a : Addr} {ks : List NK}
theorem nd_at (I : Inv X pins σ H s) (e : H a = some (NdO X.prog X.w a ks)) : ndP X.prog X.w a ks s.heap := (I.hok a _ e).1
end
section
variable {X : Cx}
/-- y in d -/
def rInNd (P : Program) (w : World) : R2 := fun y x H Q => ∃ (a : Addr) (ks : List NK) (k : NK), x = .ref a ∧ y = kN k ∧ H a = some (NdO P w a ks) ∧ Q (.bl (hasN ks k)) H
theorem op_inNd (hu : X.A.units + 1 < cLine) : OpR X (compareOp .In) (rInNd X.prog X.w) := by
  intro pins s σ H y x v u Q I ry rx ⟨a, ks, k, e1, e2, ha, q⟩
  subst e1 e2
  cases rx
  obtain ⟨hd, _, dd⟩ := nd_at I ha
  refine wpAny_in_of (kN_is X.prog X.w ry) hd dd.mapOf ?_
  rw [at_nk]
  exact ⟨.bl _, H, I.tok _, rfl, q⟩
/-- d[y] = True -/
def rSetNd (P : Program) (w : World) : TSet := fun o i v H Q => ∃ (a : Addr) (ks : List NK) (k : NK), o = .ref a ∧ i = kN k ∧ v = .bl true ∧ (H a = some (NdO P w a ks) ∨ ∃ kvs : List (Key × V), H a = some (.dK kvs) ∧ (∀ p ∈ kvs, p.2 = .bl true) ∧ ks = kvs.map fun p => some p.1) ∧ ks.length ≤ 9000 ∧ Q (upd H a (NdO P w a (putN ks k)))
theorem kv_true : ∀ {kvs : List (Key × V)} {vs : List (Key × Value)}, KV kvs vs → (∀ p ∈ kvs, p.2 = .bl true) → (vs.map fun x => ((some x.1, x.2) : NK × Value)) = (kvs.map fun p => some p.1).map nkE := by
  intro kvs vs h t
  induction h with
  | nil => rfl
  | cons r e ih =>
    rename_i x y xs ys
    have h1 := t x (List.mem_cons_self ..)
    have h2 := ih fun p hp => t p (List.mem_cons_of_mem _ hp)
    have h3 : y.2 = .bool true := by
      have := r.2
      rw [h1] at this
      exact this
    rw [List.map_cons, List.map_cons, List.map_cons, h2]
    refine congrArg (fun z => z :: _) ?_
    show ((some y.1, y.2) : NK × Value) = (some x.1, .bool true)
    rw [h3, r.1]
theorem set_nd (hu : X.A.units + 1 < cLine) : PSet X (rSetNd X.prog X.w) := by
  intro pins s σ H o i v ov iv u Q I ro ri rv ⟨a, ks, k, e1, e2, e3, ha, hz, q⟩
  subst e1 e2 e3
  cases ro
  cases rv
  have both : (a == sysModules) = false ∧ s.heap.DictOf (noneKind X.prog X.w) a (ks.map nkE) ∧ Mut (H a) := by
    rcases ha with ha | ⟨kvs, ha, ht, rfl⟩
    · obtain ⟨hd, _, dd⟩ := nd_at I ha
      exact ⟨hd, dd, by rw [ha]; exact True.intro⟩
    · obtain ⟨_, hd, vs, rel, dd⟩ := dk_of I.hok ha
      exact ⟨hd, by rw [← kv_true rel ht]; exact nd_of dd, by rw [ha]; exact True.intro⟩
  obtain ⟨hd, dd, mu⟩ := both
  have hl : (ks.map nkE).length ≤ sizeLine := by rw [List.length_map]; exact line5 (by omega)
  refine wpAny_setItem_pairs (hsz := hl) (kN_is X.prog X.w ri) dd fun g d2 sb => ?_
  rw [stored_nk] at d2
  have ex : ∃ q, g.get? a = some q := by
    obtain ⟨o, _, _, ho, _⟩ := d2
    exact ⟨o, ho⟩
  have hp := putN_len ks k
  exact ⟨_, d_write I mu sb ex (nd_ok ⟨hd, by omega, d2⟩), q⟩
end
end Bm
set_option maxHeartbeats 1000000
/-! a dict of truths made by a comprehension, its keys maybe None -/
namespace Bm
open PySem PySem.Spec PyProof.Rows L2
section
variable {X : Cx}
theorem nd_put {pins : List (Addr × Obj)} {σ : L2.St} {H : Hp} {s : Shared} {F : Value → Shared → Prop} {D : Addr} {ks : List NK} {k : NK} {u r : Value} {Q : Unit → Shared → Prop} (J : Inv X pins σ H s) (at_ : H D = some (NdO X.prog X.w D ks)) (small : ks.length ≤ 9000)
    (rk : RelV (kN k) u) (rv : RelV (.bl true) r) (next : ∀ t, Inv X pins σ (upd H D (NdO X.prog X.w D (putN ks k))) t → Q () t) : wpAny (model X.prog X.w) X.A (dictSet D u r) Q F s := by
  obtain ⟨hd, _, dd⟩ := nd_at J at_
  cases rv
  refine wpAny_dictSet_pairs (hsz := by rw [List.length_map]; exact line5 (by omega)) (kN_is X.prog X.w rk) dd fun g d2 sb => next _ ?_
  rw [stored_nk] at d2
  have two := putN_len ks k
  have ex : ∃ q, g.get? D = some q := by
    obtain ⟨o, _, _, ho, _⟩ := d2
    exact ⟨o, ho⟩
  exact d_write J (by rw [at_]; exact True.intro) sb ex (nd_ok ⟨hd, by omega, d2⟩)
theorem nd_new {P : Program} {w : World} {H : Hp} (h : Heap) (big : sysModules < h.objs.size) : ObjOk P w H (h.push { cls := .type "dict", data := .dict #[] }) h.objs.size (NdO P w h.objs.size []) :=
  nd_ok ⟨beq_eq_false_iff_ne.mpr (Nat.ne_of_gt big), Nat.zero_le _, Heap.DictOf.new h⟩
/-- what the value of {k: True for ..} has to keep to -/
def tDcN (P : Program) (w : World) (wi : TI) (g : TG) (tt : TT) (tk tv : TE) (own : List Nat) : TE := fun σ H Q => wi σ H fun J G => ∀ D, G D = none → ∃ Z : Nat → Nat → Hp → Prop, (∃ m, Z 0 m (upd G D (NdO P w D []))) ∧ ∀ i m G, Z i m G →
  (J.stop i G ∧ Q (.ref D) G) ∨ (J.go i G ∧ ∃ Go : Hp → Prop, (∀ G', Go G' → ∃ m', m' < m ∧ Z (i + 1) m' G') ∧ ∀ x G', J.yld i G x G' → g x (wipe σ own) G' fun τ G2 => wipe τ own = wipe σ own ∧ tt τ G2 fun b G3 =>
    if b = true then tk τ G3 fun y G4 => tv τ G4 fun z G5 => ∃ ks k, y = kN k ∧ z = .bl true ∧ G5 D = some (NdO P w D ks) ∧ ks.length ≤ 9000 ∧ Go (upd G5 D (NdO P w D (putN ks k))) else Go G3)
theorem ps_setDcN {i : Nat} {y : Str} {py : Pos} {ka va tgt src : Expr} {cs : List Expr} {sc : Scope} {own : List (Str × Nat)} {p sp : Pos} {wi : TI} {g : TG} {tt : TT} {tk tv : TE} (calm : X.calm = true) (nd : X.N.Nodup) (at_ : X.N[i]? = some y) (loc : X.env.scope.names.lookup y = some .local)
    (sw : swapsWith (.DictComp ka va [⟨tgt, src, cs, 0⟩] sc p) (some (.Name y py)) sp.line X.env = pure true) (pi : PI X tgt src wi) (blk : BlkOk X.N X.env.scope sc own)
    (pg : ∀ s H C cl fp, PG (X.blk s H sc (compEnvC sc cl C X.env) fp) tgt g) (pt : ∀ s H C cl fp, PTs (X.blk s H sc (compEnvC sc cl C X.env) fp) cs tt) (pk : ∀ s H C cl fp, PE (X.blk s H sc (compEnvC sc cl C X.env) fp) ka tk) (pv : ∀ s H C cl fp, PE (X.blk s H sc (compEnvC sc cl C X.env) fp) va tv)
    (fo : ∀ x, foldedSetIterable src X.env x = pure x := by intro _; rfl) :
    PS X (.Assign [.Name y py] (.DictComp ka va [⟨tgt, src, cs, 0⟩] sc p) sp) (tAsg (tDcN X.prog X.w wi g tt tk tv (own.map fun z => z.2)) (gName i)) := by
  constructor
  intro pins s σ H D I h
  rw [exec_Assign_Name_used y py _ sp sw]
  have core : ∀ {Qf : Value → Shared → Prop} {use : Option (Value → Sem Unit)} (h0 : tDcN X.prog X.w wi g tt tk tv (own.map fun z => z.2) σ H (fun x G => gName i x σ G D.nx))
      (post : ∀ L C t m G, Inv X pins σ G t → gName i (.ref L) σ G D.nx → t.heap.Ns C m → FpOk X pins G C → compPost (model X.prog X.w) X.A X.xe use Qf (.ref L) C (.ok .next) t),
      wpAny (model X.prog X.w) X.A (comprehension (.DictComp ka va [⟨tgt, src, cs, 0⟩] sc p) sc X.env (firstIterPos [⟨tgt, src, cs, 0⟩] p) newDict false (eval src X.env) use) Qf X.xe s := fun {Qf use} h0 post => by
    have cells : ∀ c ∈ sc.names, c.2 = .free → ∃ a, X.env.cells.lookup c.1 = some a := fun c hc e => (blk.free c hc e).elim (fun z => I.ok.has _ (.inl z)) (fun z => I.ok.has _ (.inr z))
    have begun := pi.run pins s σ H _ I h0
    refine wpAny_comprehension_free (use := use) rfl fo (closure_ok cells) blk.kind (fun c hc e => (blk.uniq c hc).trans (congrArg some e)) (thn begun fun _ _ hx => thn hx fun _ s2 got => ?_)
    obtain ⟨it, fp, tn, J, G2, rfl, I2, T, here, ffp, q⟩ := got
    refine wpAny_newObj_type (newEnv_comp ?_)
    obtain ⟨L, eL⟩ : ∃ L, s2.heap.objs.size = L := ⟨_, rfl⟩
    rw [eL]
    obtain ⟨Z, ⟨m0, z0⟩, turn⟩ := q L (I2.hok.fresh (Nat.le_of_eq eL))
    obtain ⟨s3, e3⟩ : ∃ s3 : Shared, { s2 with heap := s2.heap.push { cls := .type "dict", data := .dict #[] } } = s3 := ⟨_, rfl⟩
    have hh : s3.heap = s2.heap.push { cls := .type "dict", data := .dict #[] } := by rw [← e3]
    have I3 : Inv X pins σ (upd G2 L (NdO X.prog X.w L [])) s3 := by
      rw [← e3, ← eL]
      exact I2.laid (t' := s2.toks) (fun _ _ z => Heap.get?_push_of_some _ z) (Nat.le_refl _) (nd_new s2.heap I2.big)
    have lt2 : ∀ b ∈ fp, b < s2.heap.objs.size := fun b hb => let ⟨_, z, _⟩ := T.obj _ _ here b hb; Heap.lt_size z
    have ffp3 : ∀ b ∈ fp, FpOk X pins (upd G2 L (NdO X.prog X.w L [])) b ∧ b < s3.heap.objs.size := fun b hb =>
      ⟨⟨(upd_ne (by rw [← eL]; exact Nat.ne_of_lt (lt2 b hb))).trans (ffp b hb).1, (ffp b hb).2⟩, by rw [hh, Heap.size_push]; exact Nat.lt_succ_of_lt (lt2 b hb)⟩
    have here3 : tn 0 s3.heap := T.keep _ _ _ here fun b _ o z => by rw [hh]; exact Heap.get?_push_of_some _ z
    have I4 := block_start I3 blk nd ffp3
    let cl0 := cellsFrom (s3.heap.objs.size + 1) sc.names (cloFrom X.env.cells sc.names [])
    have ug := pg s3 (upd G2 L (NdO X.prog X.w L [])) s3.heap.objs.size cl0 fp
    have ut := pt s3 (upd G2 L (NdO X.prog X.w L [])) s3.heap.objs.size cl0 fp
    have uk := pk s3 (upd G2 L (NdO X.prog X.w L [])) s3.heap.objs.size cl0 fp
    have uv := pv s3 (upd G2 L (NdO X.prog X.w L [])) s3.heap.objs.size cl0 fp
    rw [← eL]
    show codeAny _ _ (.compStart (.DictComp ka va [⟨tgt, src, cs, 0⟩] sc p) 0 (.ref it) (.ref s2.heap.objs.size) (compEnvC sc (cellsFrom ((s2.heap.push { cls := .type "dict", data := .dict #[] }).objs.size + 1) sc.names (cloFrom X.env.cells sc.names [])) (s2.heap.push { cls := .type "dict", data := .dict #[] }).objs.size X.env)) (compPost (model X.prog X.w) X.A X.xe use Qf (.ref s2.heap.objs.size) (s2.heap.push { cls := .type "dict", data := .dict #[] }).objs.size) { s2 with heap := pushCells ((s2.heap.push { cls := .type "dict", data := .dict #[] }).push { cls := .type "dict", data := .dict #[] }) sc.names }
    rw [eL]
    have tr : ({ s2 with heap := pushCells ((s2.heap.push { cls := .type "dict", data := .dict #[] }).push { cls := .type "dict", data := .dict #[] }) sc.names } : Shared) = { s3 with heap := pushCells (s3.heap.push { cls := .type "dict", data := .dict #[] }) sc.names } := by rw [← e3]
    rw [tr, ← hh]
    have I4' : Inv (X.blk s3 (upd G2 L (NdO X.prog X.w L [])) sc (compEnvC sc cl0 s3.heap.objs.size X.env) fp) [] (wipe σ (own.map fun z => z.2)) (upd G2 L (NdO X.prog X.w L [])) { s3 with heap := pushCells (s3.heap.push { cls := .type "dict", data := .dict #[] }) sc.names } := I4
    have none_fp : ∀ b ∈ fp, upd G2 L (NdO X.prog X.w L []) b = none := fun b hb => (ffp3 b hb).1.1
    have here4 : tn 0 ({ s3 with heap := pushCells (s3.heap.push { cls := .type "dict", data := .dict #[] }) sc.names } : Shared).heap := T.keep _ _ _ here3 fun b _ o z => pushCells_keeps _ _ _ _ (Heap.get?_push_of_some _ z)
    obtain ⟨ce, hce⟩ : ∃ ce, compEnvC sc cl0 s3.heap.objs.size X.env = ce := ⟨_, rfl⟩
    have loc_ce : ce.locals = s3.heap.objs.size := by rw [← hce]; rfl
    rw [show compEnvC sc (cellsFrom (s3.heap.objs.size + 1) sc.names (cloFrom X.env.cells sc.names [])) s3.heap.objs.size X.env = ce from hce]
    rw [hce] at I4' ug ut uk uv
    generalize upd G2 L (NdO X.prog X.w L []) = G3 at I3 I4' ug ut uk uv z0 none_fp ffp3
    generalize ({ s3 with heap := pushCells (s3.heap.push { cls := .type "dict", data := .dict #[] }) sc.names } : Shared) = s4 at I4' here4 ⊢
    clear I4
    let Y := X.blk s3 G3 sc ce fp
    have asleep : ∀ {τ : L2.St} {G : Hp} {t : Shared}, Inv Y [] τ G t → (∀ b ∈ fp, G b = none) → ∀ b ∈ fp, FpOk Y [] G b := fun {τ G t} J z b hb =>
      ⟨z b hb, (J.ok.exf b hb).1, J.ok.exfs b hb, .inl hb, fun x c e => (J.ok.exf b hb).2 x c e, fun r hr => by cases hr⟩
    have rounds : codeAny (model X.prog X.w) X.A (.compLoop (.DictComp ka va [⟨tgt, src, cs, 0⟩] sc p) 0 (.ref it) (.ref L) ce) (compPost (model X.prog X.w) X.A X.xe use Qf (.ref L) s3.heap.objs.size) s4 := by
      refine compLoop_anyD (fun m t => ∃ i G, Inv Y [] (wipe σ (own.map fun z => z.2)) G t ∧ tn i t.heap ∧ (∀ b ∈ fp, G b = none) ∧ Z i m G) (fun m t inv => ?_) m0 ⟨0, G3, I4', here4, none_fp, z0⟩
      obtain ⟨i, G, J0, at0_, no0, z⟩ := inv
      cases turn i m G z with
      | inl over =>
        refine thnF (T.done Y rfl rfl rfl calm i [] t _ G (fun _ _ => False) J0 (asleep J0 no0) at0_ over.1) fun r t1 ⟨er, J1⟩ => ?_
        subst er
        have back : Inv X pins σ G t1 := I3.call' (ch := fp) J1.os J1.base J1.hok J1.bare fun b hb => let z := (ffp3 b hb).1.2; ⟨z.2.2.1, z.1, z.2.2.2.1, z.2.2.2.2⟩
        have free_ : G s3.heap.objs.size = none := loc_ce ▸ (show G ce.locals = none from J1.free)
        obtain ⟨mm, nsm, _⟩ := J1.loc
        exact post L s3.heap.objs.size t1 mm G back over.2 (loc_ce ▸ (show t1.heap.Ns ce.locals mm from nsm)) (I3.fpOk (Nat.le_refl _) free_)
      | inr on =>
        obtain ⟨go, Go, less, step⟩ := on
        refine thnF (T.item Y rfl rfl rfl calm i [] t _ G (fun _ _ => False) J0 (asleep J0 no0) at0_ go) fun r t1 ⟨u, er, own1⟩ => ?_
        subst er
        refine thnF own1 fun _ t2 ⟨x, G2', J2, rx, yx, at2, no2⟩ => ?_
        have Jp := J2.pinned (asleep J2 no2) (T.obj _ _ at2)
        refine thnF (ug.run _ t2 _ G2' x u _ Jp rx (step x G2' yx)) fun _ t3 ⟨τ, G3', J3, wp, qt⟩ => ?_
        refine thnF (ut.run _ t3 τ G3' _ J3 qt) fun c t4 ⟨G4, J4, qc⟩ => ?_
        have close_ : ∀ {t' : Shared} {G' : Hp}, Inv Y ([] ++ pinsAt fp t2.heap) τ G' t' → Go G' → ∃ m', m' < m ∧ ∃ i G, Inv Y [] (wipe σ (own.map fun z => z.2)) G t' ∧ tn i t'.heap ∧ (∀ b ∈ fp, G b = none) ∧ Z i m' G := fun {t' G'} J' hgo => by
          obtain ⟨m', lt, z'⟩ := less G' hgo
          have stay : ∀ b ∈ fp, ∀ o, t2.heap.get? b = some o → t'.heap.get? b = some o ∧ G' b = none := fun b hb o e =>
            (J'.pin (b, o) (List.mem_append_right _ (List.mem_append_right _ (mem_pinsAt hb e)))).imp id And.left
          have same_len : (wipe σ (own.map fun z => z.2)).length = τ.length := by rw [← wp, wipe_length]
          have weak_ := (J'.unpinned (pins := [])).weak same_len fun j v e => (wipe_some (wp ▸ e)).1
          exact ⟨m', lt, i + 1, G', weak_, T.keep _ _ _ at2 fun b hb o e => (stay b hb o e).1, fun b hb => let ⟨o, e, _⟩ := T.obj _ _ at2 b hb; (stay b hb o e).2, z'⟩
        cases hc : c with
        | false =>
          rw [hc] at qc
          exact close_ J4 qc
        | true =>
          rw [hc] at qc
          refine thnF (uk.run _ t4 τ G4 _ J4 qc) fun ku t5 ⟨yk, G5, J5, rk, qk⟩ => ?_
          refine thnF (uv.run _ t5 τ G5 _ J5 qk) fun vu t6 ⟨yv, G6, J6, rv, ks, k, ek, ev, hL6, hk6, hgo⟩ => ?_
          subst ek ev
          exact nd_put (X := Y) J6 hL6 hk6 rk rv fun t7 J7 => close_ J7 hgo
    exact codeAny_compStart_dict rounds (T.self X.A 0 _ _ _ here4 rounds)
  exact wpAny_bind (wpAny_standAt (wpAny_bind (wpAny_bind (thn (core (use := some (assign (.Name y py) X.env)) (Qf := fun _ s2 => SP X pins D .next s2) h fun L C t m G J q hn f => by
    obtain ⟨f0, f1, f2, f3, f4, f5⟩ := f
    show wpAny _ _ (assign (.Name y py) X.env (.ref L)) _ _ _
    refine wpAny_assign_Name (store_ok2 (v := V.ref L) J nd at_ (.inl loc) rfl (fun s3 J3 ex => ?_) (.inr loc))
    obtain ⟨a, sb, ha⟩ := ex
    have nC : C ≠ a := ha.elim (fun z => z ▸ f1) (fun z e => f4 y a z e.symm)
    exact ⟨m, hn.sameBut sb nC, fun h4 sb4 => ⟨_, G, J3.turned (t' := s3.toks) (fun b o nb e => (sb4.2 b nb).trans e) f0 f1 f3 f4 f5, q⟩⟩) fun _ _ q => wpAny_pure (wpAny_pure q)))))
end
end Bm
set_option maxHeartbeats 800000
namespace Bm
open PySem PySem.Spec PyProof.Rows L2
open Classical in
/-- a deed that stays: one that goes nowhere, or to the start of a deed or the end -/
noncomputable def kept (ws : List Int) (o : Option De) : Option De := match o.bind De.goal with
  | none => o
  | some g => if ∃ j, IsNo ws g j then o else none
def keyO (o : Option De) : NK := (o.bind De.goal).map .inl
theorem gv_key (o : Option De) : gv o = kN (keyO o) := by
  unfold gv keyO
  cases o.bind De.goal <;> rfl
/-- rows of three: a place, a deed that stays, a count -/
inductive TdV (K : PySem.W.Frag) (H : Hp) (ws : List Int) : List V → List (Nat × Option De) → Prop
  | nil : TdV K H ws [] []
  | cons {r : Addr} {v : V} {p : Nat} {o : Option De} {vs : List V} {ms : List (Nat × Option De)} : SqT K H r [.int (p : Nat), v, .int (sizeO p o : Nat)] → VD K H v (kept ws o) → TdV K H ws vs ms → TdV K H ws (.ref r :: vs) ((p, o) :: ms)
theorem TdV.map {K : PySem.W.Frag} {H H' : Hp} {ws : List Int} (f : ∀ a xs, SqT K H a xs → SqT K H' a xs) : ∀ {vs : List V} {ms : List (Nat × Option De)}, TdV K H ws vs ms → TdV K H' ws vs ms
  | _, _, .nil => .nil
  | _, _, .cons h d t => .cons (f _ _ h) (d.map f) (t.map f)
theorem TdV.snoc {K : PySem.W.Frag} {H : Hp} {ws : List Int} {r : Addr} {v : V} {p : Nat} {o : Option De} (h : SqT K H r [.int (p : Nat), v, .int (sizeO p o : Nat)]) (hd : VD K H v (kept ws o)) : ∀ {vs : List V} {ms : List (Nat × Option De)}, TdV K H ws vs ms → TdV K H ws (vs ++ [.ref r]) (ms ++ [(p, o)])
  | _, _, .nil => .cons h hd .nil
  | _, _, .cons a b c => .cons a b (TdV.snoc h hd c)
theorem TdV.len {K : PySem.W.Frag} {H : Hp} {ws : List Int} : ∀ {vs : List V} {ms : List (Nat × Option De)}, TdV K H ws vs ms → vs.length = ms.length
  | _, _, .nil => rfl
  | _, _, .cons _ _ t => congrArg Nat.succ t.len
theorem TdV.at_ {K : PySem.W.Frag} {H : Hp} {ws : List Int} : ∀ {vs : List V} {ms : List (Nat × Option De)} {i : Nat} {x : V}, TdV K H ws vs ms → vs[i]? = some x → ∃ r v p o, x = .ref r ∧ ms[i]? = some (p, o) ∧ SqT K H r [.int (p : Nat), v, .int (sizeO p o : Nat)] ∧ VD K H v (kept ws o)
  | _, _, i, x, .nil, h => by simp at h
  | _, _, 0, x, .cons (r := r) (v := v) (p := p) (o := o) h1 h2 _, h => ⟨r, v, p, o, (Option.some.inj h).symm, rfl, h1, h2⟩
  | _, _, i + 1, x, .cons _ _ h2, h => TdV.at_ (i := i) h2 h
theorem put_mem {kvs : List (Key × V)} {k : Key} {v : V} {x : Key} : x ∈ (putK kvs k v).map Prod.fst ↔ x = k ∨ x ∈ kvs.map Prod.fst := by
  unfold putK
  split
  · rename_i h
    have e : (kvs.map fun kv => if kv.1 = k then (kv.1, v) else kv).map (·.1) = kvs.map (·.1) := by
      rw [List.map_map]
      refine List.map_congr_left fun p _ => ?_
      show (if p.1 = k then (p.1, v) else p).1 = p.1
      split <;> rfl
    rw [e]
    constructor
    · exact .inr
    · rintro (rfl | h2)
      · obtain ⟨p, hp, e2⟩ := List.any_eq_true.mp h
        rw [← of_decide_eq_true e2]
        exact List.mem_map_of_mem hp
      · exact h2
  · rw [List.map_append, List.mem_append]
    constructor
    · rintro (h | h)
      · exact .inr h
      · exact .inl (List.mem_singleton.mp h)
    · rintro (rfl | h)
      · exact .inr (List.mem_singleton.mpr rfl)
      · exact .inl h
theorem put_len (kvs : List (Key × V)) (k : Key) (v : V) : (putK kvs k v).length ≤ kvs.length + 1 := by
  unfold putK
  split
  · rw [List.length_map]; omega
  · rw [List.length_append]; exact Nat.le_refl _
theorem put_true {kvs : List (Key × V)} {k : Key} (h : ∀ p ∈ kvs, p.2 = .bl true) : ∀ p ∈ putK kvs k (.bl true), p.2 = .bl true := fun p hp => by
  unfold putK at hp
  split at hp
  · obtain ⟨q, hq, rfl⟩ := List.mem_map.mp hp
    split
    · rfl
    · exact h q hq
  · rcases List.mem_append.mp hp with hp | hp
    · exact h p hp
    · rw [List.mem_singleton.mp hp]
theorem putN_mem {ks : List NK} {k x : NK} : x ∈ putN ks k ↔ x = k ∨ x ∈ ks := by
  unfold putN
  by_cases c : hasN ks k = true
  · rw [if_pos c]
    exact ⟨.inr, fun h => h.elim (fun e => by rw [e]; exact hasN_iff.mp c) id⟩
  · rw [if_neg c, List.mem_append, List.mem_singleton]
    exact ⟨fun h => h.elim .inr .inl, fun h => h.elim .inr .inl⟩
section
variable {P : Program} {w : World} {K : PySem.W.Frag} {mg : Str → Option Value} {base : Heap} {f : Addr} {fd : FuncData} {dvs : List V} {odd : List Str}
def wordT (l : List Int) : Str := ".word " ++ Txt.join ", " (l.map fun x => ("0x" : Str) ++ figT 16 4 x.toNat)
def spWr (K : PySem.W.Frag) : Sp := fun vs H Q _ => ∃ (a : Addr) (l : List Int), vs = [.ref a] ∧ SqT K H a (vInts l) ∧ l.length ≤ 300 ∧ wsOk l ∧ ∀ H', Same H H' → Q (.str (wordT l)) H'
theorem hex_len (n : Nat) (h : n < 65536) : (("0x" : Str) ++ figT 16 4 n).length = 6 := by
  rw [sapp_len, show ("0x" : Str).length = 2 by decide +kernel, ← sg_len, sg_fig (k := 3) (by decide) h, figs_len]
abbrev N_word_row : List Str := ["words", "word"]
theorem sc_word_row : FnScope ["words", "word"] ["words"] (defScope s_word_row) := ⟨rfl, rfl, rfl, by decide +kernel, rfl, by decide +kernel, by decide +kernel⟩
theorem ok_wrow (F : FnP K "word_row" s_word_row dvs f fd) : FnOk P w K mg base CX0 1 f fd ["words"] (spWr K) := by
  refine F.ok sc_word_row (fun vs H Q E h => ?_) (fun cdv A outer s H vs Q E hr h => ?_)
  · obtain ⟨a, l, rfl, _⟩ := h
    rfl
  · obtain ⟨a, l, rfl, hS, hl, hw, q⟩ := h
    refine ⟨_, PSs.nox (pss_one (ps_ret (pe_op op_add_str pe_str (pe_bm PySem.F.plainAttrs_str PySem.F.slot_str_join PySem.F.type_str_join mt_join pe_str (pa_cons (pe_lc (own := [("word", 1)]) (g := gName 1) rfl sc_word_row.nd (pi_tup (pv 0)) (blkOk_by (own := [("word", 1)]) (N := N_word_row) (sc := defScope s_word_row) (by decide +kernel)) (fun _ _ _ _ _ => (pg_name (i := 1) sc_word_row.nd rfl (Or.inl rfl))) (fun _ _ _ _ _ => pts_nil) (fun _ _ _ _ _ => (pe_joined (.cons pe_str (.cons (pe_04x (pv 1)) .nil))))) pa_nil))))), ?_⟩
    refine ⟨rfl, _, rfl, a, rfl, ⟨_, hS⟩, fun D hD => ?_⟩
    have vl : (vInts l).length = l.length := List.length_map ..
    refine lc_it (te := fun σ H Q => tJs [tC (V.str "0x"), tFig 16 4 (tVar 1)] Str.empty σ H fun out H1 => Q (V.str out) H1) walk_tup (fun i G => Same H G ∧ G D = some (.lst (((l.take i).map fun x => ("0x" : Str) ++ figT 16 4 x.toNat).map V.str))) ⟨Same.add hD, upd_same⟩ (fun _ _ _ h => Same.tup h.1 hS) ?_ ?_
    · rintro i x G G' hi ⟨g1, g2⟩ ⟨eH, eX⟩
      rw [eH]
      have eX : (l.map V.int)[i]? = some x := eX
      rw [List.getElem?_map] at eX
      obtain ⟨n, hn, rfl⟩ := Option.map_eq_some_iff.mp eX
      have hx := hw n (List.mem_of_getElem? hn)
      have hn2 : n.toNat < 65536 := by omega
      have e0 : ("0x" : Str).length = 2 := by decide +kernel
      have fl : (figT 16 4 n.toNat).length = 4 := by rw [← sg_len, sg_fig (k := 3) (by decide) hn2, figs_len]
      refine ⟨rfl, _, rfl, line5 (by rw [PySem.Str.empty_append, e0]; decide), _, rfl, n.toNat, congrArg V.int (by omega), hn2, _, rfl, line5 (by rw [PySem.Str.empty_append, sapp_len, e0, fl]; decide), ?_⟩
      unfold tJs
      rw [PySem.Str.empty_append]
      refine ⟨_, g2, line_lt (by rw [List.length_map, List.length_map, List.length_take]; omega), Same.mut g1 hD, ?_⟩
      rw [upd_same, take_succ' hn, List.map_append, List.map_append]
      rfl
    · rintro G ⟨g1, g2⟩
      rw [vl, List.take_length] at g2
      have c1 : (", " : Str).length = 2 := by decide +kernel
      have c2 : (".word " : Str).length = 6 := by decide +kernel
      have sum : ∀ m : List Int, wsOk m → ((m.map fun x => ("0x" : Str) ++ figT 16 4 x.toNat).map (·.length)).sum = m.length * 6 := fun m => by
        induction m with
        | nil => intro _; rfl
        | cons x m ih =>
          intro h
          have hx := h x (List.mem_cons_self ..)
          rw [List.map_cons, List.map_cons, List.sum_cons, hex_len _ (by omega), ih fun y hy => h y (List.mem_cons_of_mem _ hy), List.length_cons]
          omega
      have s6 := sum l hw
      have jl := join_len (", ") (l.map fun x => ("0x" : Str) ++ figT 16 4 x.toNat)
      rw [s6, List.length_map, c1] at jl
      refine ⟨_, D, _, rfl, rfl, .inl (SqL.of g2), by rw [s6, List.length_map, c1]; omega, _, _, rfl, rfl, line5 (by rw [c2]; omega), ?_⟩
      exact q G g1
abbrev KnWrow (P : Program) (w : World) (K : PySem.W.Frag) (mg : Str → Option Value) (base : Heap) : Prop := Kn P w K mg base CX0 1 "word_row" ["words"] [] (spWr K)
end
end Bm
set_option maxHeartbeats 800000
namespace Bm
open PySem PySem.Spec PyProof.Rows L2
theorem noneOf2 {H H' : Hp} {p : Addr} (e : Same H H') (h : H' p = none) : H p = none := by
  cases c : H p with
  | none => rfl
  | some u =>
    rw [e _ _ c] at h
    cases h
def EndsK (ws : List Int) (i : Nat) (kvs : List (Key × V)) : Prop := (∀ p ∈ kvs, p.2 = .bl true) ∧ kvs.length ≤ i ∧ ∀ x : Key, x ∈ kvs.map Prod.fst ↔ ∃ (j : Nat) (m : Nat × Option De), j < i ∧ (met ws)[j]? = some m ∧ x = .inl (m.1 : Int)
theorem ends_nil (ws : List Int) : EndsK ws 0 [] := ⟨fun p h => (List.not_mem_nil h).elim, Nat.le_refl _, fun x => ⟨fun h => (List.not_mem_nil h).elim, fun ⟨_, _, h, _⟩ => absurd h (Nat.not_lt_zero _)⟩⟩
theorem ends_next {ws : List Int} {i : Nat} {kvs : List (Key × V)} {m : Nat × Option De} (h : EndsK ws i kvs) (hm : (met ws)[i]? = some m) : EndsK ws (i + 1) (putK kvs (.inl (m.1 : Int)) (.bl true)) := by
  obtain ⟨h1, h2, h3⟩ := h
  refine ⟨put_true h1, by have := put_len kvs (.inl (m.1 : Int)) (.bl true); omega, fun x => ?_⟩
  rw [put_mem, h3]
  constructor
  · rintro (rfl | ⟨j, m2, hj, e1, e2⟩)
    · exact ⟨i, m, Nat.lt_succ_self i, hm, rfl⟩
    · exact ⟨j, m2, by omega, e1, e2⟩
  · rintro ⟨j, m2, hj, e1, e2⟩
    cases Nat.lt_or_eq_of_le (Nat.le_of_lt_succ hj) with
    | inl c => exact .inr ⟨j, m2, c, e1, e2⟩
    | inr c =>
      rw [c, hm] at e1
      rw [Option.some.inj e1]
      exact .inl e2
section
variable {P : Program} {w : World} {K : PySem.W.Frag} {mg : Str → Option Value} {base : Heap} {f : Addr} {fd : FuncData} {dvs : List V} {odd : List Str}
def spTold (K : PySem.W.Frag) : Sp := fun vs H Q _ => ∃ (t : Addr) (ws : List Int), vs = [.ref t] ∧ SqT K H t (vInts ws) ∧ ws.length ≤ 300 ∧ wsOk ws ∧ ∀ D rs H', Same H H' → H D = none → H' D = some (.lst rs) → TdV K H' ws rs (met ws) → Q (.ref D) H'
abbrev N_told_deeds : List Str := ["words", "met", "ends", "place", "deed", "many"]
theorem sc_told_deeds : FnScope ["words", "met", "ends", "place", "deed", "many"] ["words"] (defScope s_told_deeds) := ⟨rfl, rfl, rfl, by decide +kernel, rfl, by decide +kernel, by decide +kernel⟩
theorem ok_told (F : FnP K "told_deeds" s_told_deeds dvs f fd) (k_deeds_met : KnMt P w K mg base) (k_goal_of : KnGo P w K mg base) (g_len : mg "len" = none) : FnOk P w K mg base CX0 6 f fd ["words"] (spTold K) := by
  refine F.ok sc_told_deeds (fun vs H Q E h => ?_) (fun cdv A outer s H vs Q E hr h => ?_)
  · obtain ⟨t, ws, rfl, _⟩ := h
    rfl
  · obtain ⟨t, ws, rfl, hS, hl, hw, q⟩ := h
    refine ⟨_, PSs.nox (pss_cons (ps_set (i := 1) sc_told_deeds.nd rfl (Or.inl rfl) (pk k_deeds_met hr (by decide) rfl pass0 (pa_cons (pv 0) pa_nil)))
      (pss_cons (ps_set (i := 2) sc_told_deeds.nd rfl (Or.inr rfl) (pe_dc (own := [("place", 3), ("deed", 4), ("many", 5)]) (g := gTup K 3 (gCons (gName 3) (gCons (gName 4) (gCons (gName 5) (gNil))))) rfl sc_told_deeds.nd (pi_list (pv 1)) (blkOk_by (own := [("place", 3), ("deed", 4), ("many", 5)]) (N := N_told_deeds) (sc := defScope s_told_deeds) (by decide +kernel)) (fun _ _ _ _ _ => (pg_tup rfl (pgs_cons (pg_name (i := 3) sc_told_deeds.nd rfl (Or.inl rfl)) (pgs_cons (pg_name (i := 4) sc_told_deeds.nd rfl (Or.inl rfl)) (pgs_cons (pg_name (i := 5) sc_told_deeds.nd rfl (Or.inl rfl)) pgs_nil))))) (fun _ _ _ _ _ => pts_nil) (fun _ _ _ _ _ => (pv 3)) (fun _ _ _ _ _ => pe_bl)))
      (pss_cons (ps_asg pe_bl (pg_sub (pv 2) (pe_callB call_len rfl g_len boot_len (pa_cons (pv 0) pa_nil)) (set_dict (hu_of hr))))
      (pss_cons (ps_asg pe_bl (pg_sub (pv 2) pe_non (show PSet _ (rSetNd P w) from set_nd (hu_of hr))))
      (pss_one (ps_ret (pe_lc (own := [("place", 3), ("deed", 4), ("many", 5)]) (g := gTup K 3 (gCons (gName 3) (gCons (gName 4) (gCons (gName 5) (gNil))))) rfl sc_told_deeds.nd (pi_list (pv 1)) (blkOk_by (own := [("place", 3), ("deed", 4), ("many", 5)]) (N := N_told_deeds) (sc := defScope s_told_deeds) (by decide +kernel)) (fun _ _ _ _ _ => (pg_tup rfl (pgs_cons (pg_name (i := 3) sc_told_deeds.nd rfl (Or.inl rfl)) (pgs_cons (pg_name (i := 4) sc_told_deeds.nd rfl (Or.inl rfl)) (pgs_cons (pg_name (i := 5) sc_told_deeds.nd rfl (Or.inl rfl)) pgs_nil))))) (fun _ _ _ _ _ => pts_nil) (fun _ _ _ _ _ => (pe_tup (pa_cons (pv 3) (pa_cons (pe_ifExp (pt_cmpR (show OpR _ (compareOp .In) (rInNd P w) from op_inNd (hu_of hr)) (pk k_goal_of hr (by decide) rfl pass0 (pa_cons (pv 4) pa_nil)) (pv 2) rfl) (pv 4) pe_non) (pa_cons (pv 5) pa_nil)))))))))))), ?_⟩
    refine ⟨_, rfl, t, ws, rfl, hS, hl, hw, fun D rs H1 s1 hDn hDS hm => ?_⟩
    refine ⟨_, rfl, D, rfl, ⟨_, SqL.of hDS⟩, fun N hN => ?_⟩
    have hNn : H1 N = none := hN
    have rlen : rs.length = (met ws).length := hm.len
    have mlen := met_len ws
    refine dc_it (walk_list (xs := rs)) (fun i G => Same H1 G ∧ ∃ kvs : List (Key × V), G N = some (.dK kvs) ∧ EndsK ws i kvs) ⟨Same.add hN, [], upd_same, ends_nil ws⟩ (fun i G _ h => h.1.seq (SqL.of hDS)) ?_ ?_
    · rintro i x G G' hi ⟨g1, kvs, g2, g3⟩ ⟨eH, eX⟩
      rw [eH]
      have hmG := hm.map (fun a xs => Same.tup (H' := G) (a := a) (xs := xs) g1)
      obtain ⟨r, v, p, o, rfl, hmi, hr3, hv⟩ := hmG.at_ eX
      have il := (List.getElem?_eq_some_iff.mp hmi).1
      refine ⟨r, _, rfl, hr3, rfl, _, _, rfl, _, _, rfl, _, _, rfl, rfl, rfl, ?_⟩
      exact ⟨_, rfl, kvs, .inl (p : Int), rfl, g2, line_lt (by have := g3.2.1; omega), Same.mut g1 hNn, _, upd_same, ends_next g3 hmi⟩
    · rintro G ⟨g1, kvs, g2, g3⟩
      rw [rlen] at g3
      have gS := Same.tup (Same.trans s1 g1) hS
      have vl : (vInts ws).length = ws.length := List.length_map ..
      refine ⟨_, rfl, _, rfl, _, _, rfl, .inr ⟨_, gS, rfl⟩, N, _, rfl, .inl ⟨kvs, .inl ((vInts ws).length : Nat), g2, rfl, line_lt (by have := g3.2.1; omega), rfl⟩, ?_⟩
      rw [vl]
      have k1 : upd G N (.dK (putK kvs (.inl (ws.length : Nat)) (.bl true))) N = some (.dK (putK kvs (.inl (ws.length : Nat)) (.bl true))) := upd_same
      have sG1 : Same H1 (upd G N (.dK (putK kvs (.inl (ws.length : Nat)) (.bl true)))) := Same.mut g1 hNn
      have t1 := put_true (k := .inl (ws.length : Nat)) g3.1
      have l1 := put_len kvs (.inl (ws.length : Nat)) (.bl true)
      have m1 : ∀ x : Key, x ∈ (putK kvs (.inl (ws.length : Nat)) (.bl true)).map Prod.fst ↔ ∃ (g : Int) (j : Nat), x = .inl g ∧ IsNo ws g j := fun x => by
        rw [put_mem, g3.2.2]
        constructor
        · rintro (rfl | ⟨j, m, _, e1, e2⟩)
          · exact ⟨_, _, rfl, .inr ⟨rfl, rfl⟩⟩
          · exact ⟨_, j, e2, .inl ⟨m, e1, rfl⟩⟩
        · rintro ⟨g, j, rfl, ⟨m, e1, e2⟩ | ⟨_, e2⟩⟩
          · exact .inr ⟨j, m, (List.getElem?_eq_some_iff.mp e1).1, e1, by rw [e2]⟩
          · exact .inl (by rw [e2])
      generalize putK kvs (.inl (ws.length : Nat)) (.bl true) = kv2 at k1 sG1 t1 l1 m1 ⊢
      generalize upd G N (.dK kv2) = G1 at k1 sG1 ⊢
      refine ⟨_, rfl, N, _, none, rfl, rfl, rfl, .inr ⟨kv2, k1, t1, rfl⟩, by rw [List.length_map]; have := g3.2.1; omega, ?_⟩
      have n1 : upd G1 N (NdO P w N (putN (kv2.map fun p => some p.1) none)) N = some (NdO P w N (putN (kv2.map fun p => some p.1) none)) := upd_same
      have sG2 : Same H1 (upd G1 N (NdO P w N (putN (kv2.map fun p => some p.1) none))) := Same.mut sG1 hNn
      have hk : ∀ o : Option De, hasN (putN (kv2.map fun p => some p.1) none) (keyO o) = true ↔ kept ws o = o := fun o => by
        rw [hasN_iff, putN_mem]
        unfold keyO kept
        cases c : o.bind De.goal with
        | none => exact ⟨fun _ => rfl, fun _ => .inl rfl⟩
        | some g =>
          have mm : some (Sum.inl g) ∈ (kv2.map fun p => (some p.1 : NK)) ↔ ∃ j, IsNo ws g j := by
            have e : (kv2.map fun p => (some p.1 : NK)) = (kv2.map Prod.fst).map some := by rw [List.map_map]; rfl
            rw [e, List.mem_map]
            constructor
            · rintro ⟨x, hx, e2⟩
              obtain ⟨g', j, e3, hj⟩ := (m1 x).mp hx
              have e4 : x = .inl g := Option.some.inj e2
              rw [e3] at e4
              rw [← Sum.inl.inj e4]
              exact ⟨j, hj⟩
            · rintro ⟨j, hj⟩
              exact ⟨.inl g, (m1 _).mpr ⟨g, j, rfl, hj⟩, rfl⟩
          have on : o ≠ none := fun z => by rw [z] at c; cases c
          constructor
          · rintro (h | h)
            · cases h
            · exact if_pos (mm.mp h)
          · intro h
            refine .inr (mm.mpr ?_)
            exact Classical.byContradiction fun z => on (by rw [← h]; exact if_neg z)
      have hk0 : ∀ o : Option De, hasN (putN (kv2.map fun p => some p.1) none) (keyO o) = false → kept ws o = none := fun o h => by
        have h2 : ¬ kept ws o = o := fun z => by rw [(hk o).mpr z] at h; cases h
        unfold kept at h2 ⊢
        split
        · rename_i c
          rw [c] at h2
          exact absurd rfl h2
        · rename_i g c
          rw [c] at h2
          exact if_neg fun z => h2 (if_pos z)
      generalize putN (kv2.map fun p => some p.1) none = ks at n1 sG2 hk hk0 ⊢
      generalize upd G1 N (NdO P w N ks) = G2 at n1 sG2 ⊢
      have hD2 := sG2 _ _ hDS
      refine ⟨_, rfl, D, rfl, ⟨_, SqL.of hD2⟩, fun L hL => ?_⟩
      have hLn : H L = none := noneOf2 s1 (noneOf2 sG2 hL)
      have nNL : N ≠ L := fun z => by rw [z, hL] at n1; cases n1
      refine lc_it (walk_list (xs := rs)) (fun i G => Same G2 G ∧ G N = some (NdO P w N ks) ∧ ∃ vs, G L = some (.lst vs) ∧ TdV K G ws vs ((met ws).take i)) ⟨Same.add hL, by rw [upd_ne nNL]; exact n1, [], upd_same, .nil⟩ (fun _ _ _ h => h.1.seq (SqL.of hD2)) ?_ ?_
      · rintro i x Ga G' hi ⟨h1, hN2, vs, h2, h3⟩ ⟨eH, eX⟩
        rw [eH]
        have hmG := hm.map (fun a xs => Same.tup (H' := Ga) (a := a) (xs := xs) (Same.trans sG2 h1))
        obtain ⟨r, v, p, o, rfl, hmi, hr3, hv⟩ := hmG.at_ eX
        have hoat := (met_at hmi).2
        have hok : ∀ d, o = some d → d.ok := fun d e => by
          have : o = atD ws p := hoat
          exact (atD_is (this.symm.trans e)).1
        refine ⟨r, _, rfl, hr3, rfl, _, _, rfl, _, _, rfl, _, _, rfl, rfl, rfl, ?_⟩
        refine ⟨_, rfl, _, rfl, v, o, rfl, hv, hok, fun Gb sb => ?_⟩
        have hNb := sb _ _ hN2
        refine ⟨_, rfl, N, ks, keyO o, rfl, gv_key o, hNb, _, rfl, ?_⟩
        have h2b := sb _ _ h2
        have h3b := h3.map (fun a xs => Same.tup (H' := Gb) (a := a) (xs := xs) sb)
        have hvb := hv.map (fun a xs => Same.tup (H' := Gb) (a := a) (xs := xs) sb)
        have il := (List.getElem?_eq_some_iff.mp hmi).1
        have vsl : vs.length ≤ 300 := by
          rw [h3.len, List.length_take]
          omega
        have endT : ∀ (T : Addr) (dv : V), Gb T = none → VD K Gb dv (kept ws o) → ∃ acc, upd Gb T (.tup [V.int (p : Nat), dv, V.int (sizeO p o : Nat)]) L = some (.lst acc) ∧ acc.length < sizeLine ∧ Same G2 (upd (upd Gb T (.tup [V.int (p : Nat), dv, V.int (sizeO p o : Nat)])) L (.lst (acc ++ [V.ref T]))) ∧ upd (upd Gb T (.tup [V.int (p : Nat), dv, V.int (sizeO p o : Nat)])) L (.lst (acc ++ [V.ref T])) N = some (NdO P w N ks) ∧ ∃ vs, upd (upd Gb T (.tup [V.int (p : Nat), dv, V.int (sizeO p o : Nat)])) L (.lst (acc ++ [V.ref T])) L = some (.lst vs) ∧ TdV K (upd (upd Gb T (.tup [V.int (p : Nat), dv, V.int (sizeO p o : Nat)])) L (.lst (acc ++ [V.ref T]))) ws vs ((met ws).take (i + 1)) := fun T dv hT hd => by
          have sT : Same Gb (upd Gb T (.tup [V.int (p : Nat), dv, V.int (sizeO p o : Nat)])) := Same.add hT
          have eT : upd Gb T (.tup [V.int (p : Nat), dv, V.int (sizeO p o : Nat)]) T = some (.tup [V.int (p : Nat), dv, V.int (sizeO p o : Nat)]) := upd_same
          generalize upd Gb T (.tup [V.int (p : Nat), dv, V.int (sizeO p o : Nat)]) = Gc at sT eT ⊢
          have hcL := sT _ _ h2b
          refine ⟨vs, hcL, line_lt (by omega), Same.mut (Same.trans h1 (Same.trans sb sT)) hL, ?_, vs ++ [.ref T], upd_same, ?_⟩
          · rw [upd_ne nNL]
            exact sT _ _ hNb
          · rw [take_succ' hmi]
            exact TdV.snoc (tup_put2 hcL (SqT.of eT)) (hd.map fun a xs h => tup_put2 hcL (Same.tup sT h)) (h3b.map fun a xs h => tup_put2 hcL (Same.tup sT h))
        cases c : hasN ks (keyO o) with
        | true =>
          have ek := (hk o).mp c
          exact iteT ⟨_, rfl, _, rfl, line5 (by simp), fun T hT => endT T v hT (by rw [ek]; exact hvb)⟩
        | false =>
          have ek := hk0 o c
          exact iteF ⟨_, rfl, line5 (by simp), fun T hT => endT T .non hT (by rw [ek]; rfl)⟩
      · rintro Ga ⟨h1, hN2, vs, h2, h3⟩
        rw [rlen, List.take_length] at h3
        exact q L vs Ga (Same.trans s1 (Same.trans sG2 h1)) hLn h2 h3
abbrev KnTold (P : Program) (w : World) (K : PySem.W.Frag) (mg : Str → Option Value) (base : Heap) : Prop := Kn P w K mg base CX0 6 "told_deeds" ["words"] [] (spTold K)
end
end Bm
set_option maxHeartbeats 800000
namespace Bm
open PySem PySem.Spec PyProof.Rows L2
/-- what is not come to -/
theorem ps_never' {X : Cx} {st : Stmt} : PS X st (fun _ _ _ => False) := ⟨fun _ _ _ _ _ _ h => h.elim⟩
section
variable {P : Program} {w : World} {K : PySem.W.Frag} {mg : Str → Option Value} {base : Heap} {f : Addr} {fd : FuncData} {dvs : List V} {odd : List Str}
theorem good_at {ws : List Int} (h : GoodI ws) : ∀ i x, ws[i]? = some x → i ≠ 200 ∧ isW x = true := fun i x hx => ⟨by
  have := (List.getElem?_eq_some_iff.mp hx).1
  have := h.1
  omega, h.2 x (List.mem_of_getElem? hx)⟩
/-! checked_image, of images that can be -/
def spImgV (K : PySem.W.Frag) : Sp := fun vs H Q _ => ∃ (a : Addr) (ws : List Int), vs = [.ref a] ∧ (SqL K H a (vInts ws) ∨ SqT K H a (vInts ws)) ∧ GoodI ws ∧ ∀ t H', Same H H' → SqT K H' t (vInts ws) → Q (.ref t) H'
theorem ok_imgV (F : FnP K "checked_image" s_checked_image dvs f fd) (k_first_wrong : KnWr P w K mg base) (g_tuple : mg "tuple" = none) (gm : ∃ t, mg "IMAGE_MOST" = some (.int 200 t)) : FnOk P w K mg base CX0 4 f fd ["image"] (spImgV K) := by
  refine F.ok sc_checked_image (fun vs H Q E h => ?_) (fun cdv A outer s H vs Q E hr h => ?_)
  · obtain ⟨a, ws, rfl, _⟩ := h
    rfl
  · obtain ⟨a, ws, rfl, hS, hg, q⟩ := h
    obtain ⟨tk, g_IMAGE_MOST⟩ := gm
    let v_IMAGE_MOST : Int := 200
    have ps_never {X : Cx} {st : Stmt} : PS X st (fun _ _ _ => False) := ps_never'
    refine ⟨_, PSs.nox (pss_cons (ps_set (i := 1) sc_checked_image.nd rfl (Or.inl rfl) (pk k_first_wrong hr (by decide) rfl pass0 (pa_cons (pv 0) (pa_cons (pe_glob (v := .int v_IMAGE_MOST) rfl g_IMAGE_MOST ⟨_, rfl⟩) pa_nil))))
      (pss_cons (ps_if (pt_cmpR op_notN (pv 1) pe_non (nomark _)) (pss_one ps_never) pss_nil)
      (pss_one (ps_ret (pe_callTy call_tuple_of rfl g_tuple (by decide +kernel) (pa_cons (pv 0) pa_nil)))))), ?_⟩
    refine ⟨_, rfl, a, ws, 200, rfl, hS, fun j H' _ hj hw _ => ?_, fun _ H1 s1 => ?_⟩
    · exfalso
      rcases hw with e | ⟨x, hx, e⟩
      · have := hg.1
        omega
      · rw [(good_at hg j x hx).2] at e
        cases e
    · refine ⟨_, rfl, rfl, _, rfl, ?_⟩
      show if (!decide (V.non = V.non)) = true then _ else _
      rw [show (!decide (V.non = V.non)) = false from congrArg Bool.not (decide_eq_true rfl)]
      refine iteF ⟨_, rfl, a, vInts ws, rfl, ?_⟩
      rcases hS with hS | hS
      · exact .inl ⟨s1.seq hS, fun t ht => q t _ (Same.trans s1 (Same.add ht)) (SqT.of upd_same)⟩
      · exact .inr ⟨Same.tup s1 hS, q a H1 s1 (Same.tup s1 hS)⟩
/-! unpacked, of images that can be -/
abbrev KnImV (P : Program) (w : World) (K : PySem.W.Frag) (mg : Str → Option Value) (base : Heap) : Prop := Kn P w K mg base CX0 4 "checked_image" ["image"] [] (spImgV K)
end
end Bm
set_option maxHeartbeats 800000
namespace Bm
open PySem PySem.Spec PyProof.Rows L2
/-! the law's state: the script, how many cells are begun, a mixed number, what is left of a cell -/
structure Sk where
  st : Addr
  sc : Addr
  ns : List Int
def St (K : PySem.W.Frag) (H : Hp) (S : Sk) : Prop := S.ns.length ≤ 63 ∧ SqL K H S.sc (S.ns.map V.int) ∧ ∃ a m c : Int, H S.st = some (.lst [.ref S.sc, .int a, .int m, .int c]) ∧ 0 ≤ a ∧ (0 ≤ m ∧ m < 2147483647) ∧ 0 ≤ c
/-- all but the state stays, the state is one -/
structure Kp (K : PySem.W.Frag) (S : Sk) (H H' : Hp) : Prop where
  but : ∀ b o, b ≠ S.st → H b = some o → H' b = some o
  old : St K H S
  st : St K H' S
theorem St.lst {K : PySem.W.Frag} {H : Hp} {S : Sk} (h : St K H S) : ∃ l, H S.st = some (.lst l) := let ⟨_, _, _, _, _, h1, _⟩ := h; ⟨_, h1⟩
theorem St.same {K : PySem.W.Frag} {H H' : Hp} {S : Sk} (h : St K H S) (e : Same H H') : St K H' S := by
  obtain ⟨h0, h1, a, m, c, h2, h3⟩ := h
  exact ⟨h0, e.seq h1, a, m, c, e _ _ h2, h3⟩
theorem Kp.of {K : PySem.W.Frag} {H H' : Hp} {S : Sk} (h : St K H S) (e : Same H H') : Kp K S H H' := ⟨fun b o _ q => e b o q, h, h.same e⟩
theorem Kp.refl {K : PySem.W.Frag} {H : Hp} {S : Sk} (h : St K H S) : Kp K S H H := Kp.of h (Same.refl H)
theorem Kp.trans {K : PySem.W.Frag} {H H1 H2 : Hp} {S : Sk} (a : Kp K S H H1) (b : Kp K S H1 H2) : Kp K S H H2 := ⟨fun c o n q => b.but c o n (a.but c o n q), a.old, b.st⟩
theorem Kp.same {K : PySem.W.Frag} {H H1 H2 : Hp} {S : Sk} (a : Kp K S H H1) (e : Same H1 H2) : Kp K S H H2 := a.trans (Kp.of a.st e)
theorem Kp.tup {K : PySem.W.Frag} {H H' : Hp} {S : Sk} {p : Addr} {xs : List V} (k : Kp K S H H') (h : SqT K H p xs) : SqT K H' p xs := by
  obtain ⟨l, hl⟩ := k.old.lst
  rcases h with (h | ⟨o, h⟩) | h
  · exact .inl (.inl (k.but _ _ (fun z => by rw [z, hl] at h; cases h) h))
  · exact .inl (.inr ⟨o, k.but _ _ (fun z => by rw [z, hl] at h; cases h) h⟩)
  · exact .inr h
theorem Kp.lst {K : PySem.W.Frag} {H H' : Hp} {S : Sk} {p : Addr} {xs : List V} (k : Kp K S H H') (n : p ≠ S.st) (h : SqL K H p xs) : SqL K H' p xs := by
  rcases h with (h | ⟨o, h⟩) | h
  · exact .inl (.inl (k.but _ _ n h))
  · exact .inl (.inr ⟨o, k.but _ _ n h⟩)
  · exact .inr h
theorem Kp.free {K : PySem.W.Frag} {H H' : Hp} {S : Sk} {p : Addr} (k : Kp K S H H') (h : H' p = none) : H p = none := by
  cases q : H p with
  | none => rfl
  | some o =>
    by_cases e : p = S.st
    · obtain ⟨l, hl⟩ := k.st.lst
      rw [e, hl] at h
      cases h
    · rw [k.but p o e q] at h
      cases h
theorem Kp.add {K : PySem.W.Frag} {H H' : Hp} {S : Sk} {p : Addr} {o : HO} (k : Kp K S H H') (h : H' p = none) : Kp K S H (upd H' p o) := k.same (Same.add h)
theorem St.upd {K : PySem.W.Frag} {H : Hp} {S : Sk} {p : Addr} {o : HO} (h : St K H S) (n : p ≠ S.st) (np : ∀ u, H S.sc = some u → S.sc ≠ p) : St K (upd H p o) S := by
  obtain ⟨h0, h1, a, m, c, h2, h3⟩ := h
  refine ⟨h0, ?_, a, m, c, by rw [upd_ne (Ne.symm n)]; exact h2, h3⟩
  rcases h1 with (h | ⟨u, h⟩) | h
  · exact .inl (.inl (by rw [upd_ne (np _ h)]; exact h))
  · exact .inl (.inr ⟨u, by rw [upd_ne (np _ h)]; exact h⟩)
  · exact .inr h
/-- a thing that H does not know may change -/
theorem Kp.mut {K : PySem.W.Frag} {H H' : Hp} {S : Sk} {p : Addr} {o : HO} (k : Kp K S H H') (h : H p = none) : Kp K S H (upd H' p o) := by
  obtain ⟨l, hl⟩ := k.old.lst
  have n : p ≠ S.st := fun z => by
    rw [z, hl] at h
    cases h
  refine ⟨fun b u nb q => by rw [upd_ne (ne_of_none q h)]; exact k.but b u nb q, k.old, ?_⟩
  obtain ⟨h0, h1, h2⟩ := k.old
  obtain ⟨g0, g1, a, m, c, g2, g3⟩ := k.st
  refine ⟨g0, ?_, a, m, c, by rw [upd_ne (Ne.symm n)]; exact g2, g3⟩
  have h1' : SqL K (L2.upd H' p o) S.sc (S.ns.map V.int) := by
    rcases h1 with (h5 | ⟨u, h5⟩) | h5
    · have np : S.sc ≠ p := ne_of_none h5 h
      have ns : S.sc ≠ S.st := fun z => by
        obtain ⟨_, _, a, m, c, g, _⟩ := k.old
        rw [z, g] at h5
        have e := Option.some.inj h5
        cases e2 : S.ns with
        | nil => rw [e2] at e; cases e
        | cons x r => rw [e2] at e; cases e
      exact .inl (.inl (by rw [upd_ne np]; exact k.but _ _ ns h5))
    · have np : S.sc ≠ p := ne_of_none h5 h
      have ns : S.sc ≠ S.st := fun z => by
        rw [z, hl] at h5
        cases h5
      exact .inl (.inr ⟨u, by rw [upd_ne np]; exact k.but _ _ ns h5⟩)
    · exact .inr h5
  exact h1'
theorem Kp.put {K : PySem.W.Frag} {H : Hp} {S : Sk} {a m c : Int} (h : St K H S) (ha : 0 ≤ a) (hm : 0 ≤ m ∧ m < 2147483647) (hc : 0 ≤ c) : Kp K S H (upd H S.st (.lst [.ref S.sc, .int a, .int m, .int c])) := by
  obtain ⟨h0, h1, a0, m0, c0, h2, h3⟩ := id h
  refine ⟨fun b o n q => by rw [upd_ne n]; exact q, h, h0, ?_, a, m, c, upd_same, ha, hm, hc⟩
  rcases h1 with (h5 | ⟨u, h5⟩) | h5
  · have ns : S.sc ≠ S.st := fun z => by
      rw [z, h2] at h5
      have e := Option.some.inj h5
      cases e2 : S.ns with
      | nil => rw [e2] at e; cases e
      | cons x r => rw [e2] at e; cases e
    exact .inl (.inl (by rw [upd_ne ns]; exact h5))
  · have ns : S.sc ≠ S.st := fun z => by
      rw [z, h2] at h5
      cases h5
    exact .inl (.inr ⟨u, by rw [upd_ne ns]; exact h5⟩)
  · exact .inr h5
section
variable {P : Program} {w : World} {K : PySem.W.Frag} {mg : Str → Option Value} {base : Heap} {f : Addr} {fd : FuncData} {dvs : List V}
/-! _law_start -/
def spStart (K : PySem.W.Frag) : Sp := fun vs H Q _ => ∃ (a : Addr) (ns : List Int), vs = [.ref a] ∧ SqL K H a (ns.map V.int) ∧ ns.length ≤ 63 ∧ ∀ p H', H p = none → Same H H' → St K H' ⟨p, a, ns⟩ → Q (.ref p) H'
abbrev N__law_start : List Str := ["_law_script", "_law_mixed", "_law_cell"]
theorem sc__law_start : FnScope ["_law_script", "_law_mixed", "_law_cell"] ["_law_script"] (defScope s__law_start) := ⟨rfl, rfl, rfl, by decide +kernel, rfl, by decide +kernel, by decide +kernel⟩
theorem ok_start (F : FunD K "_law_start" "_law_start" (defArgs s__law_start) (defBody s__law_start) (defScope s__law_start) dvs [] f fd) : FnOk P w K mg base CX0 1 f fd ["_law_script"] (spStart K) := by
  refine F.ok sc__law_start (fun vs H Q E h => ?_) (fun cdv A outer s H vs Q E hr h => ?_)
  · obtain ⟨a, ns, rfl, _⟩ := h
    rfl
  · obtain ⟨a, ns, rfl, hS, h63, q⟩ := h
    refine ⟨_, PSs.nox (pss_cons (ps_set (i := 1) sc__law_start.nd rfl (Or.inl rfl) pe_int)
      (pss_cons (ps_for PassesOwn.never rfl (pi_list (pv 0)) (pg_name (i := 2) sc__law_start.nd rfl (Or.inl rfl))
      (pss_one (ps_set (i := 1) sc__law_start.nd rfl (Or.inl rfl) (pe_op op_modN (pe_op op_add (pe_op op_add (pe_op op_mul (pv 1) pe_int) (pv 2)) pe_int) pe_int))))
      (pss_one (ps_ret (pe_lst (pa_cons (pv 0) (pa_cons pe_int (pa_cons (pv 1) (pa_cons pe_int pa_nil))))))))), ?_⟩
    refine ⟨_, rfl, a, rfl, ⟨_, hS⟩, for_list (K := K) (a := a) (xs := ns.map V.int) (fun i σ H2 => ∃ (m : Int) (v : Option V), σ = [some (.ref a), some (.int m), v] ∧ H2 = H ∧ 0 ≤ m ∧ m < 2147483647)
      ⟨1, none, rfl, rfl, by decide, by decide⟩ (fun i σ H2 _ ⟨_, _, _, e, _⟩ => by rw [e]; exact hS) ?_ ?_⟩
    · rintro i x σ H2 hi ⟨m, v, rfl, rfl, h0, h1⟩
      rw [List.getElem?_map] at hi
      cases e : ns[i]? with
      | none => rw [e] at hi; cases hi
      | some z =>
        rw [e] at hi
        have ez : x = V.int z := (Option.some.inj hi).symm
        subst ez
        refine ⟨_, rfl, _, _, rfl, rfl, .inl ⟨by omega, by omega⟩, _, rfl, _, _, rfl, rfl, _, _, rfl, rfl, _, _, rfl, rfl, (show (2147483647 : Int) ≠ 0 by decide), ?_⟩
        refine ⟨_, _, rfl, rfl, ?_⟩
        rw [Int.fmod_eq_emod_of_nonneg _ (by decide)]
        omega
    · rintro σ H2 ⟨m, v, rfl, rfl, h0, h1⟩
      exact ⟨_, rfl, _, rfl, line5 (by simp), laid fun p H1 hp s1 h2 => q p H1 hp s1 ⟨h63, s1.seq hS, 0, m, 0, h2, by decide, ⟨h0, h1⟩, by decide⟩⟩
/-! _law_drawn -/
def spDrawn (K : PySem.W.Frag) : Sp := fun vs H Q _ => ∃ (S : Sk) (many : Int), vs = [.ref S.st, .int many] ∧ St K H S ∧ 0 < many ∧ many < 1267650600228229401496703205376 ∧ ∀ r H', 0 ≤ r → r < many → Kp K S H H' → Q (.int r) H'
abbrev N__law_drawn : List Str := ["_law_state", "_law_many", "_law_found", "_law_cell"]
theorem sc__law_drawn : FnScope ["_law_state", "_law_many", "_law_found", "_law_cell"] ["_law_state", "_law_many"] (defScope s__law_drawn) := ⟨rfl, rfl, rfl, by decide +kernel, rfl, by decide +kernel, by decide +kernel⟩
theorem ok_drawn (F : FunD K "_law_drawn" "_law_drawn" (defArgs s__law_drawn) (defBody s__law_drawn) (defScope s__law_drawn) dvs [] f fd) (g_len : mg "len" = none) : FnOk P w K mg base CX0 1 f fd ["_law_state", "_law_many"] (spDrawn K) := by
  refine F.ok sc__law_drawn (fun vs H Q E h => ?_) (fun cdv A outer s H vs Q E hr h => ?_)
  · obtain ⟨S, many, rfl, _⟩ := h
    rfl
  · obtain ⟨S, many, rfl, hst, hm0, hm1, q⟩ := h
    obtain ⟨h3, h2, a, m, c, h1, ha, hm, hc⟩ := id hst
    refine ⟨_, PSs.nox (pss_cons (ps_if (pt_cmpR op_gt (pe_ix ix_list (pv 0) pe_int (fun _ _ => rfl)) pe_int (nomark _)) (pss_cons (ps_set (i := 2) sc__law_drawn.nd rfl (Or.inl rfl) (pe_op op_modN (pe_ix ix_list (pv 0) pe_int (fun _ _ => rfl)) (pv 1)))
      (pss_cons (ps_asg (pe_op op_fdivW (pe_ix ix_list (pv 0) pe_int (fun _ _ => rfl)) (pv 1)) (pg_sub (pv 0) pe_int set_list))
      (pss_one (ps_ret (pv 2))))) pss_nil)
      (pss_cons (ps_asg (pe_op op_add (pe_ix ix_list (pv 0) pe_int (fun _ _ => rfl)) pe_int) (pg_sub (pv 0) pe_int set_list))
      (pss_cons (ps_if (pt_cmpR op_le (pe_ix ix_list (pv 0) pe_int (fun _ _ => rfl)) (pe_callB call_len rfl g_len boot_len (pa_cons (pe_ix ix_list (pv 0) pe_int (fun _ _ => rfl)) pa_nil)) (nomark _)) (pss_cons (ps_set (i := 3) sc__law_drawn.nd rfl (Or.inl rfl) (pe_ix ix_list (pe_ix ix_list (pv 0) pe_int (fun _ _ => rfl)) (pe_op op_sub (pe_ix ix_list (pv 0) pe_int (fun _ _ => rfl)) pe_int) (fun _ _ => rfl)))
      (pss_cons (ps_asg (pe_ifExp (pt_cmpR op_ge (pv 3) (pe_op op_pow pe_int pe_int) (nomark _)) (pe_op op_fdivW (pv 3) (pv 1)) pe_int) (pg_sub (pv 0) pe_int set_list))
      (pss_one (ps_ret (pe_op op_modN (pv 3) (pv 1)))))) pss_nil)
      (pss_cons (ps_asg (pe_op op_modN (pe_op op_add (pe_op op_mul (pe_ix ix_list (pv 0) pe_int (fun _ _ => rfl)) pe_int) pe_int) pe_int) (pg_sub (pv 0) pe_int set_list))
      (pss_one (ps_ret (pe_op op_modN (pe_op op_fdivW (pe_ix ix_list (pv 0) pe_int (fun _ _ => rfl)) pe_int) (pv 1)))))))), ?_⟩
    have hw : many.natAbs < 2 ^ 100 := by
      have e : (2 : Nat) ^ 100 = 1267650600228229401496703205376 := by decide +kernel
      omega
    have fm : ∀ x : Int, 0 ≤ x.fmod many ∧ x.fmod many < many := fun x => by
      rw [Int.fmod_eq_emod_of_nonneg _ (by omega)]
      exact ⟨Int.emod_nonneg _ (by omega), Int.emod_lt_of_pos _ hm0⟩
    have at_ : ∀ (y : Addr) (x0 x1 x2 x3 : V), atI [x0, x1, x2, x3] 3 = some x3 ∧ atI [x0, x1, x2, x3] 2 = some x2 ∧ atI [x0, x1, x2, x3] 1 = some x1 ∧ atI [x0, x1, x2, x3] 0 = some x0 := fun y x0 x1 x2 x3 => ⟨atI_nat (j := 3) rfl, atI_nat (j := 2) rfl, atI_nat (j := 1) rfl, atI_nat (j := 0) rfl⟩
    refine ⟨_, rfl, _, _, _, _, rfl, rfl, SqL.of h1, (at_ 0 _ _ _ _).1, _, _, rfl, rfl, _, rfl, ?_⟩
    by_cases hc0 : 0 < c
    · rw [decide_eq_true hc0]
      refine iteT ?_
      refine ⟨_, rfl, _, _, _, _, rfl, rfl, SqL.of h1, (at_ 0 _ _ _ _).1, _, rfl, _, _, rfl, rfl, by omega, ?_⟩
      refine ⟨_, rfl, _, _, _, _, rfl, rfl, SqL.of h1, (at_ 0 _ _ _ _).1, _, rfl, _, _, rfl, rfl, wide_div hm0 hw (by decide) (by decide), _, rfl, _, _, _, 3, rfl, rfl, h1, rfl, ?_⟩
      refine ⟨_, rfl, q _ _ (fm c).1 (fm c).2 (Kp.put hst ha hm ?_)⟩
      exact Int.ediv_nonneg hc (by omega)
    · rw [decide_eq_false hc0]
      refine iteF ?_
      refine ⟨_, rfl, _, _, _, _, rfl, rfl, SqL.of h1, (at_ 0 _ _ _ _).2.2.1, _, _, rfl, rfl, _, rfl, _, _, _, 1, rfl, rfl, h1, rfl, ?_⟩
      have k1 : Kp K S H (upd H S.st (.lst [.ref S.sc, .int (a + 1), .int m, .int c])) := Kp.put hst (by omega) hm hc
      have e1 : (upd H S.st (.lst [.ref S.sc, .int (a + 1), .int m, .int c])) S.st = some (.lst [.ref S.sc, .int (a + 1), .int m, .int c]) := upd_same
      show tSeq _ _ _ _ (upd H S.st (.lst [.ref S.sc, .int (a + 1), .int m, .int c]))
      generalize upd H S.st (.lst [.ref S.sc, .int (a + 1), .int m, .int c]) = H1 at k1 e1 ⊢
      refine ⟨_, rfl, _, _, _, _, rfl, rfl, SqL.of e1, (at_ 0 _ _ _ _).2.2.1, _, rfl, _, _, _, _, rfl, rfl, SqL.of e1, (at_ 0 _ _ _ _).2.2.2, _, _, rfl, .inl ⟨_, k1.st.2.1, rfl⟩, _, _, rfl, rfl, _, rfl, ?_⟩
      by_cases hl : a + 1 ≤ ((S.ns.map V.int).length : Int)
      · rw [decide_eq_true hl]
        refine iteT ?_
        rw [List.length_map] at hl
        have hat : atI (S.ns.map V.int) (a + 1 - 1) = some (.int (S.ns.getD a.toNat 0)) := by
          have e : a + 1 - 1 = ((a.toNat : Nat) : Int) := by omega
          rw [e]
          refine atI_nat ?_
          rw [List.getElem?_map, List.getD_eq_getElem?_getD]
          have : a.toNat < S.ns.length := by omega
          rw [List.getElem?_eq_getElem this]
          rfl
        generalize S.ns.getD a.toNat 0 = x at hat
        refine ⟨_, rfl, _, _, _, _, rfl, rfl, SqL.of e1, (at_ 0 _ _ _ _).2.2.2, _, rfl, _, _, _, _, rfl, rfl, SqL.of e1, (at_ 0 _ _ _ _).2.2.1, _, _, rfl, rfl, _, _, _, _, rfl, rfl, k1.st.2.1, hat, ?_⟩
        refine ⟨_, rfl, _, _, rfl, rfl, ⟨by decide, by decide, by decide⟩, _, _, rfl, rfl, _, rfl, ?_⟩
        have fin : ∀ z : Int, 0 ≤ z → Kp K S H (upd H1 S.st (.lst [.ref S.sc, .int (a + 1), .int m, .int z])) := fun z hz => k1.trans (Kp.put k1.st (by omega) hm hz)
        by_cases hx : (10 : Int) ^ (18 : Int).toNat ≤ x
        · rw [decide_eq_true hx]
          refine iteT ?_
          refine ⟨_, rfl, _, rfl, _, _, rfl, rfl, wide_div hm0 hw (by decide) (by decide), _, rfl, _, _, _, 3, rfl, rfl, e1, rfl, ?_⟩
          refine ⟨_, rfl, _, rfl, _, _, rfl, rfl, by omega, q _ _ (fm x).1 (fm x).2 (fin _ ?_)⟩
          exact Int.ediv_nonneg (Int.le_trans (by decide) hx) (by omega)
        · rw [decide_eq_false hx]
          refine iteF ?_
          refine ⟨_, rfl, _, _, _, 3, rfl, rfl, e1, rfl, ?_⟩
          exact ⟨_, rfl, _, rfl, _, _, rfl, rfl, by omega, q _ _ (fm x).1 (fm x).2 (fin _ (by decide))⟩
      · rw [decide_eq_false hl]
        refine iteF ?_
        refine ⟨_, rfl, _, _, _, _, rfl, rfl, SqL.of e1, (at_ 0 _ _ _ _).2.1, _, _, rfl, rfl, .inl ⟨by omega, by omega⟩, _, _, rfl, rfl, _, _, rfl, rfl, (show (2147483647 : Int) ≠ 0 by decide), _, rfl, _, _, _, 2, rfl, rfl, e1, rfl, ?_⟩
        refine ⟨_, rfl, _, _, _, _, rfl, rfl, SqL.of upd_same, (at_ 0 _ _ _ _).2.1, _, _, rfl, rfl, wide_div (by decide) (b := 3) (by decide) (by decide) (by decide), _, rfl, _, _, rfl, rfl, by omega, ?_⟩
        refine q _ _ (fm _).1 (fm _).2 (k1.trans (Kp.put k1.st (by omega) ?_ hc))
        show 0 ≤ (m * 48271 + 11).fmod 2147483647 ∧ (m * 48271 + 11).fmod 2147483647 < 2147483647
        rw [Int.fmod_eq_emod_of_nonneg _ (by decide)]
        omega
end
end Bm
set_option maxHeartbeats 800000
namespace Bm
open PySem PySem.Spec PyProof.Rows L2
section
variable {P : Program} {w : World} {K : PySem.W.Frag} {mg : Str → Option Value} {base : Heap} {f : Addr} {fd : FuncData} {dvs : List V}
/-! lists of names -/
def spNames (l : List Str) : Sp := fun vs H Q _ => vs = [] ∧ ∀ q H', H q = none → Same H H' → H' q = some (.lst (l.map V.str)) → Q (.ref q) H'
abbrev N__law_plain : List Str := []
theorem sc__law_plain : FnScope [] [] (defScope s__law_plain) := ⟨rfl, rfl, rfl, by decide +kernel, rfl, by decide +kernel, by decide +kernel⟩
abbrev N__law_pairs : List Str := []
theorem sc__law_pairs : FnScope [] [] (defScope s__law_pairs) := ⟨rfl, rfl, rfl, by decide +kernel, rfl, by decide +kernel, by decide +kernel⟩
abbrev N__law_times : List Str := []
theorem sc__law_times : FnScope [] [] (defScope s__law_times) := ⟨rfl, rfl, rfl, by decide +kernel, rfl, by decide +kernel, by decide +kernel⟩
theorem ok_plain (F : FunD K "_law_plain" "_law_plain" (defArgs s__law_plain) (defBody s__law_plain) (defScope s__law_plain) dvs [] f fd) : FnOk P w K mg base CX0 1 f fd [] (spNames SG) := by
  refine F.ok sc__law_plain (fun vs H Q E h => by rw [h.1]; rfl) (fun cdv A outer s H vs Q E hr h => ?_)
  obtain ⟨rfl, q⟩ := h
  refine ⟨_, PSs.nox (pss_one (ps_ret (pe_lst (pa_cons pe_str (pa_cons pe_str (pa_cons pe_str (pa_cons pe_str (pa_cons pe_str (pa_cons pe_str (pa_cons pe_str pa_nil)))))))))), ?_⟩
  exact ⟨line5 (by simp), laid fun q' H1 hq s1 h1 => q q' H1 hq s1 h1⟩
theorem ok_pairs (F : FunD K "_law_pairs" "_law_pairs" (defArgs s__law_pairs) (defBody s__law_pairs) (defScope s__law_pairs) dvs [] f fd) : FnOk P w K mg base CX0 1 f fd [] (spNames SM) := by
  refine F.ok sc__law_pairs (fun vs H Q E h => by rw [h.1]; rfl) (fun cdv A outer s H vs Q E hr h => ?_)
  obtain ⟨rfl, q⟩ := h
  refine ⟨_, PSs.nox (pss_one (ps_ret (pe_lst (pa_cons pe_str (pa_cons pe_str (pa_cons pe_str (pa_cons pe_str (pa_cons pe_str (pa_cons pe_str (pa_cons pe_str (pa_cons pe_str pa_nil))))))))))), ?_⟩
  exact ⟨line5 (by simp), laid fun q' H1 hq s1 h1 => q q' H1 hq s1 h1⟩
theorem ok_times (F : FunD K "_law_times" "_law_times" (defArgs s__law_times) (defBody s__law_times) (defScope s__law_times) dvs [] f fd) : FnOk P w K mg base CX0 1 f fd [] (spNames TM) := by
  refine F.ok sc__law_times (fun vs H Q E h => by rw [h.1]; rfl) (fun cdv A outer s H vs Q E hr h => ?_)
  obtain ⟨rfl, q⟩ := h
  refine ⟨_, PSs.nox (pss_one (ps_ret (pe_lst (pa_cons pe_str (pa_cons pe_str (pa_cons pe_str (pa_cons pe_str (pa_cons pe_str (pa_cons pe_str (pa_cons pe_str pa_nil)))))))))), ?_⟩
  exact ⟨line5 (by simp), laid fun q' H1 hq s1 h1 => q q' H1 hq s1 h1⟩
abbrev KnDr (P : Program) (w : World) (K : PySem.W.Frag) (mg : Str → Option Value) (base : Heap) : Prop := Kn P w K mg base CX0 1 "_law_drawn" ["_law_state", "_law_many"] [] (spDrawn K)
/-! _law_number -/
def spNumber (K : PySem.W.Frag) : Sp := fun vs H Q _ => ∃ (S : Sk) (lo hi : Int), vs = [.ref S.st, .int lo, .int hi] ∧ St K H S ∧ lo ≤ hi ∧ hi - lo + 1 < 1073741824 ∧ ∀ r H', lo ≤ r → r ≤ hi → Kp K S H H' → Q (.int r) H'
abbrev N__law_number : List Str := ["_law_state", "_law_low", "_law_high", "_law_many", "_law_way"]
theorem sc__law_number : FnScope ["_law_state", "_law_low", "_law_high", "_law_many", "_law_way"] ["_law_state", "_law_low", "_law_high"] (defScope s__law_number) := ⟨rfl, rfl, rfl, by decide +kernel, rfl, by decide +kernel, by decide +kernel⟩
theorem two_ {x y : V} {i : Int} (h0 : 0 ≤ i) (h1 : i < 2) : atI [x, y] i = some (if i = 0 then x else y) := by
  have e : i = 0 ∨ i = 1 := by omega
  rcases e with rfl | rfl
  · exact atI_nat (j := 0) rfl
  · exact atI_nat (j := 1) rfl
theorem ok_number (F : FunD K "_law_number" "_law_number" (defArgs s__law_number) (defBody s__law_number) (defScope s__law_number) dvs [] f fd) (k__law_drawn : KnDr P w K mg base) (g_min : mg "min" = none) : FnOk P w K mg base CX0 2 f fd ["_law_state", "_law_low", "_law_high"] (spNumber K) := by
  refine F.ok sc__law_number (fun vs H Q E h => ?_) (fun cdv A outer s H vs Q E hr h => ?_)
  · obtain ⟨S, lo, hi, rfl, _⟩ := h
    rfl
  · obtain ⟨S, lo, hi, rfl, hst, h1, h2, q⟩ := h
    refine ⟨_, PSs.nox (pss_cons (ps_set (i := 3) sc__law_number.nd rfl (Or.inl rfl) (pe_op op_add (pe_op op_sub (pv 2) (pv 1)) pe_int))
      (pss_cons (ps_set (i := 4) sc__law_number.nd rfl (Or.inl rfl) (pk k__law_drawn hr (by decide) rfl pass0 (pa_cons (pv 0) (pa_cons pe_int pa_nil))))
      (pss_cons (ps_if (pt_cmpR op_lt (pv 4) pe_int (nomark _)) (pss_one (ps_ret (pe_ix ix_list (pe_lst (pa_cons (pv 1) (pa_cons (pv 2) pa_nil))) (pv 4) (fun _ _ => rfl)))) pss_nil)
      (pss_one (ps_ret (pe_op op_add (pv 1) (pk k__law_drawn hr (by decide) rfl pass0 (pa_cons (pv 0) (pa_cons (pe_ix ix_list (pe_lst (pa_cons (pv 3) (pa_cons (pe_callB (call_min2 rfl) rfl g_min (by decide +kernel) (pa_cons pe_int (pa_cons (pv 3) pa_nil))) pa_nil))) (pe_op op_sub (pv 4) pe_int) (fun _ _ => rfl)) pa_nil))))))))), ?_⟩
    refine ⟨_, rfl, _, rfl, _, _, rfl, rfl, _, _, rfl, rfl, _, rfl, S, 4, rfl, hst, by decide, by decide, fun way H1 w0 w1 k1 => ⟨_, rfl, _, _, rfl, rfl, _, rfl, ?_⟩⟩
    by_cases hw : way < 2
    · rw [decide_eq_true hw]
      refine iteT ⟨_, rfl, _, rfl, line5 (by simp), fun p hp => ?_⟩
      refine ⟨_, rfl, _, _, _, _, rfl, rfl, SqL.of upd_same, two_ w0 hw, ?_⟩
      by_cases e : way = 0
      · rw [if_pos e]
        exact q _ _ (Int.le_refl _) h1 (k1.add hp)
      · rw [if_neg e]
        exact q _ _ h1 (Int.le_refl _) (k1.add hp)
    · rw [decide_eq_false hw]
      refine iteF ⟨_, rfl, _, rfl, _, rfl, _, rfl, _, _, rfl, line5 (by simp), fun p hp => ?_⟩
      have k2 := k1.add (o := .lst [.int (hi - lo + 1), .int (if hi - lo + 1 < 4 then hi - lo + 1 else 4)]) hp
      refine ⟨_, rfl, _, _, rfl, rfl, _, _, _, .int (if way - 2 = 0 then hi - lo + 1 else if hi - lo + 1 < 4 then hi - lo + 1 else 4), rfl, rfl, SqL.of upd_same, ?_, ?_⟩
      · have e := two_ (x := .int (hi - lo + 1)) (y := .int (if hi - lo + 1 < 4 then hi - lo + 1 else 4)) (i := way - 2) (by omega) (by omega)
        rw [e]
        split <;> rfl
      · have b : 0 < (if way - 2 = 0 then hi - lo + 1 else if hi - lo + 1 < 4 then hi - lo + 1 else 4) ∧ (if way - 2 = 0 then hi - lo + 1 else if hi - lo + 1 < 4 then hi - lo + 1 else 4) ≤ hi - lo + 1 := by
          split
          · omega
          · split <;> omega
        refine ⟨S, _, rfl, k2.st, b.1, by omega, fun r H3 r0 r1 k3 => ⟨_, _, rfl, rfl, ?_⟩⟩
        exact q _ _ (by omega) (by omega) (k2.trans k3)
end
end Bm
set_option maxHeartbeats 1600000
namespace Bm
open PySem PySem.Spec PyProof.Rows L2
section
variable {P : Program} {w : World} {K : PySem.W.Frag} {mg : Str → Option Value} {base : Heap} {f : Addr} {fd : FuncData} {dvs : List V}
abbrev KnNum (P : Program) (w : World) (K : PySem.W.Frag) (mg : Str → Option Value) (base : Heap) : Prop := Kn P w K mg base CX0 2 "_law_number" ["_law_state", "_law_low", "_law_high"] [] (spNumber K)
abbrev KnNm (P : Program) (w : World) (K : PySem.W.Frag) (mg : Str → Option Value) (base : Heap) (x : Str) (l : List Str) : Prop := Kn P w K mg base CX0 1 x [] [] (spNames l)
/-! _law_deed -/
def De.below (m : Int) : De → Prop
  | .jump _ g _ => g ≤ m
  | .call g _ => g ≤ m
  | _ => True
def spLDeed (K : PySem.W.Frag) : Sp := fun vs H Q _ => ∃ (S : Sk) (p m : Int), vs = [.ref S.st, .int p, .int m] ∧ St K H S ∧ 0 ≤ m ∧ m ≤ 65535 ∧ ∀ (d : De) q H', d.ok → d.reached p → d.below m → Kp K S H H' → H' q = some (.tup d.vals) → Q (.ref q) H'
abbrev N__law_deed : List Str := ["_law_state", "_law_place", "_law_most", "_law_way", "_law_d", "_law_a", "_law_b", "_law_word", "_law_low", "_law_high", "_law_far", "_law_there"]
theorem sc__law_deed : FnScope ["_law_state", "_law_place", "_law_most", "_law_way", "_law_d", "_law_a", "_law_b", "_law_word", "_law_low", "_law_high", "_law_far", "_law_there"] ["_law_state", "_law_place", "_law_most"] (defScope s__law_deed) := ⟨rfl, rfl, rfl, by decide +kernel, rfl, by decide +kernel, by decide +kernel⟩
theorem nat_of {r n : Int} (h0 : 0 ≤ r) (h1 : r < n) : ∃ k : Nat, r = (k : Int) ∧ k < n.toNat := ⟨r.toNat, by omega, by omega⟩
theorem at_nm {l : List Str} {k : Nat} (h : k < l.length) : atI (l.map V.str) (k : Int) = some (.str (nm l k)) := by
  refine atI_nat ?_
  rw [List.getElem?_map, List.getElem?_eq_getElem h]
  show some (V.str l[k]) = some (V.str (l.getD k ""))
  rw [List.getD_eq_getElem?_getD, List.getElem?_eq_getElem h]
  rfl
theorem sg_first : ∀ k, k < 7 → inV (.str (nm SG k)) [.str "halt", .str "rest", .str "back"] = decide (k < 3) := by decide +kernel
theorem ok_ldeed (F : FunD K "_law_deed" "_law_deed" (defArgs s__law_deed) (defBody s__law_deed) (defScope s__law_deed) dvs [] f fd) (k__law_drawn : KnDr P w K mg base) (k__law_number : KnNum P w K mg base)
    (k__law_plain : KnNm P w K mg base "_law_plain" SG) (k__law_pairs : KnNm P w K mg base "_law_pairs" SM) (k__law_times : KnNm P w K mg base "_law_times" TM) (g_min : mg "min" = none) (g_max : mg "max" = none) : FnOk P w K mg base CX0 3 f fd ["_law_state", "_law_place", "_law_most"] (spLDeed K) := by
  refine F.ok sc__law_deed (fun vs H Q E h => ?_) (fun cdv A outer s H vs Q E hr h => ?_)
  · obtain ⟨S, p, m, rfl, _⟩ := h
    rfl
  · obtain ⟨S, p, m, rfl, hst, hm0, hm1, q⟩ := h
    refine ⟨_, PSs.nox (pss_cons (ps_set (i := 3) sc__law_deed.nd rfl (Or.inl rfl) (pk k__law_drawn hr (by decide) rfl pass0 (pa_cons (pv 0) (pa_cons pe_int pa_nil))))
      (pss_cons (ps_par3 (i := 4) (j := 5) (l := 6) rfl sc__law_deed.nd rfl rfl rfl (by decide) (by decide) (by decide) rfl rfl rfl (pa_cons (pk k__law_drawn hr (by decide) rfl pass0 (pa_cons (pv 0) (pa_cons pe_int pa_nil))) (pa_cons (pk k__law_drawn hr (by decide) rfl pass0 (pa_cons (pv 0) (pa_cons pe_int pa_nil))) (pa_cons (pk k__law_drawn hr (by decide) rfl pass0 (pa_cons (pv 0) (pa_cons pe_int pa_nil))) pa_nil))) rfl)
      (pss_cons (ps_if (pt_cmpR op_lt (pv 3) pe_int (nomark _)) (pss_cons (ps_set (i := 7) sc__law_deed.nd rfl (Or.inl rfl) (pe_ix ix_list (pk0 k__law_plain hr (by decide) rfl pass0) (pk k__law_drawn hr (by decide) rfl pass0 (pa_cons (pv 0) (pa_cons pe_int pa_nil))) (fun _ _ => rfl)))
      (pss_one (ps_ret (pe_ifExp (pt_cmpR op_in_seq (pv 7) (pe_tup (pa_cons pe_str (pa_cons pe_str (pa_cons pe_str pa_nil)))) rfl) (pe_tup (pa_cons (pv 7) pa_nil)) (pe_tup (pa_cons (pv 7) (pa_cons (pv 5) pa_nil))))))) pss_nil)
      (pss_cons (ps_if (pt_cmpR op_lt (pv 3) pe_int (nomark _)) (pss_one (ps_ret (pe_tup (pa_cons (pe_ix ix_list (pk0 k__law_pairs hr (by decide) rfl pass0) (pk k__law_drawn hr (by decide) rfl pass0 (pa_cons (pv 0) (pa_cons pe_int pa_nil))) (fun _ _ => rfl)) (pa_cons (pv 4) (pa_cons (pv 5) (pa_cons (pv 6) pa_nil))))))) pss_nil)
      (pss_cons (ps_if (pt_cmpR op_lt (pv 3) pe_int (nomark _)) (pss_cons (ps_asg (pe_ix ix_list (pe_lst (pa_cons (pe_tup (pa_cons (pe_op op_sub pe_int pe_int) (pa_cons pe_int pa_nil))) (pa_cons (pe_tup (pa_cons pe_int (pa_cons pe_int pa_nil))) (pa_cons (pe_tup (pa_cons pe_int (pa_cons pe_int pa_nil))) (pa_cons (pe_tup (pa_cons pe_int (pa_cons pe_int pa_nil))) pa_nil))))) (pe_op op_sub (pv 3) pe_int) (fun _ _ => rfl)) (pg_tup rfl (pgs_cons (pg_name (i := 8) sc__law_deed.nd rfl (Or.inl rfl)) (pgs_cons (pg_name (i := 9) sc__law_deed.nd rfl (Or.inl rfl)) pgs_nil))))
      (pss_cons (ps_set (i := 7) sc__law_deed.nd rfl (Or.inl rfl) (pe_ix ix_list (pe_lst (pa_cons pe_str (pa_cons pe_str (pa_cons pe_str (pa_cons (pe_ix ix_list (pe_lst (pa_cons pe_str (pa_cons pe_str pa_nil))) (pk k__law_drawn hr (by decide) rfl pass0 (pa_cons (pv 0) (pa_cons pe_int pa_nil))) (fun _ _ => rfl)) pa_nil))))) (pe_op op_sub (pv 3) pe_int) (fun _ _ => rfl)))
      (pss_one (ps_ret (pe_op op_catA (pe_op op_catA (pe_tup (pa_cons (pv 7) (pa_cons (pv 4) pa_nil))) (pe_ifExp (pt_cmpR op_in_seq (pv 3) (pe_tup (pa_cons pe_int (pa_cons pe_int pa_nil))) rfl) (pe_tup (pa_cons (pv 5) pa_nil)) (pe_tup pa_nil))) (pe_tup (pa_cons (pk k__law_number hr (by decide) rfl pass0 (pa_cons (pv 0) (pa_cons (pv 8) (pa_cons (pv 9) pa_nil)))) pa_nil))))))) pss_nil)
      (pss_cons (ps_set (i := 10) sc__law_deed.nd rfl (Or.inl rfl) (pe_cmpR op_eq (pk k__law_drawn hr (by decide) rfl pass0 (pa_cons (pv 0) (pa_cons pe_int pa_nil))) pe_int (nomark _)))
      (pss_cons (ps_set (i := 11) sc__law_deed.nd rfl (Or.inl rfl) (pk k__law_drawn hr (by decide) rfl pass0 (pa_cons (pv 0) (pa_cons (pe_op op_add (pv 2) pe_int) pa_nil))))
      (Evl.pss_cut (ps_if (pt_not (pt_val (pv 10))) (pss_cons (ps_set (i := 11) sc__law_deed.nd rfl (Or.inl rfl) (pe_callB (call_max2 rfl) rfl g_max (by decide +kernel) (pa_cons pe_int (pa_cons (pe_callB (call_min2 rfl) rfl g_min (by decide +kernel) (pa_cons (pv 2) (pa_cons (pe_callB (call_max2 rfl) rfl g_max (by decide +kernel) (pa_cons (pe_op op_sub (pv 1) pe_int) (pa_cons (pe_callB (call_min2 rfl) rfl g_min (by decide +kernel) (pa_cons (pe_op op_add (pv 1) pe_int) (pa_cons (pv 11) pa_nil))) pa_nil))) pa_nil))) pa_nil))))
      (pss_one (ps_set (i := 10) sc__law_deed.nd rfl (Or.inl rfl) (pe_not (pe_chain op_le op_le (pe_op op_sub (pv 1) pe_int) (pv 11) (pe_op op_add (pv 1) pe_int)))))) pss_nil)
      (pss_one (ps_ret (pe_ifExp (pt_cmpR op_eq (pv 3) pe_int (nomark _)) (pe_tup (pa_cons pe_str (pa_cons (pe_ix ix_list (pk0 k__law_times hr (by decide) rfl pass0) (pk k__law_drawn hr (by decide) rfl pass0 (pa_cons (pv 0) (pa_cons pe_int pa_nil))) (fun _ _ => rfl)) (pa_cons (pv 11) (pa_cons (pv 10) pa_nil))))) (pe_tup (pa_cons pe_str (pa_cons (pv 11) (pa_cons (pv 10) pa_nil))))))))))))))), ?_⟩
    refine ⟨_, rfl, S, 10, rfl, hst, by decide, by decide, fun way H1 w0 w1 k1 => ?_⟩
    refine ⟨_, rfl, S, 8, rfl, k1.st, by decide, by decide, fun d H2 d0 d1 k2 => ⟨_, rfl, S, 8, rfl, k2.st, by decide, by decide, fun a H3 a0 a1 k3 => ⟨_, rfl, S, 8, rfl, k3.st, by decide, by decide, fun b H4 b0 b1 k4 => ⟨_, _, _, rfl, ?_⟩⟩⟩⟩
    have kk := ((k1.trans k2).trans k3).trans k4
    clear k1 k2 k3 k4
    refine ⟨_, rfl, _, _, rfl, rfl, _, rfl, ?_⟩
    by_cases c1 : way < 2
    · rw [decide_eq_true c1]
      refine iteT ⟨rfl, fun l H5 hl s5 h5 => ⟨_, rfl, S, 7, rfl, kk.st.same s5, by decide, by decide, fun r H6 r0 r1 k6 => ?_⟩⟩
      obtain ⟨k, rfl, hk⟩ := nat_of r0 r1
      have hk : k < 7 := hk
      obtain ⟨ls, hls⟩ := kk.st.lst
      have nl : l ≠ S.st := Ne.symm (ne_of_none hls hl)
      have k5 := (kk.same s5).trans k6
      refine ⟨_, _, _, _, rfl, rfl, k6.lst nl (SqL.of h5), at_nm hk, ?_⟩
      refine ⟨_, rfl, line5 (by simp), fun p1 hp1 => ?_⟩
      refine ⟨_, _, rfl, .inr (SqT.of upd_same), rfl, rfl, _, rfl, ?_⟩
      have e3 := sg_first k hk
      show if inV (.str (nm SG k)) [.str "halt", .str "rest", .str "back"] = true then _ else _
      rw [e3]
      have k7 := k5.add (o := .tup [.str "halt", .str "rest", .str "back"]) hp1
      by_cases c4 : k < 3
      · rw [decide_eq_true c4]
        exact iteT ⟨_, rfl, line5 (by simp), laid fun q' H8 _ s8 h8 => q (.sgl k) q' H8 c4 trivial trivial (k7.same s8) h8⟩
      · rw [decide_eq_false c4]
        exact iteF ⟨_, rfl, _, rfl, line5 (by simp), laid fun q' H8 _ s8 h8 => q (.reg k a) q' H8 ⟨by omega, hk, by omega, by omega⟩ trivial trivial (k7.same s8) h8⟩
    · rw [decide_eq_false c1]
      refine iteF ⟨_, rfl, _, _, rfl, rfl, _, rfl, ?_⟩
      by_cases c2 : way < 4
      · rw [decide_eq_true c2]
        refine iteT ⟨rfl, fun l H5 hl s5 h5 => ⟨_, rfl, S, 8, rfl, kk.st.same s5, by decide, by decide, fun r H6 r0 r1 k6 => ?_⟩⟩
        obtain ⟨k, rfl, hk⟩ := nat_of r0 r1
        have hk : k < 8 := hk
        obtain ⟨ls, hls⟩ := kk.st.lst
        have nl : l ≠ S.st := Ne.symm (ne_of_none hls hl)
        have k5 := (kk.same s5).trans k6
        refine ⟨_, _, _, _, rfl, rfl, k6.lst nl (SqL.of h5), at_nm hk, ?_⟩
        exact ⟨_, rfl, _, rfl, _, rfl, line5 (by simp), laid fun q' H8 _ s8 h8 => q (.sum k d a b) q' H8 ⟨hk, ⟨by omega, by omega⟩, ⟨by omega, by omega⟩, by omega, by omega⟩ trivial trivial (k5.same s8) h8⟩
      · rw [decide_eq_false c2]
        refine iteF ⟨_, rfl, _, _, rfl, rfl, _, rfl, ?_⟩
        by_cases c3 : way < 8
        · rw [decide_eq_true c3]
          refine iteT ?_
          refine ⟨_, _, rfl, rfl, line5 (by simp), fun p1 hp1 => ?_⟩
          have s5 : Same H4 (upd H4 p1 (.tup [.int (0 - 32), .int 31])) := Same.add hp1
          have e1 : (upd H4 p1 (.tup [.int (0 - 32), .int 31])) p1 = some (.tup [.int (0 - 32), .int 31]) := upd_same
          generalize upd H4 p1 (.tup [.int (0 - 32), .int 31]) = H5 at s5 e1 ⊢
          refine ⟨line5 (by simp), fun p2 hp2 => ?_⟩
          have s6 : Same H5 (upd H5 p2 (.tup [.int 0, .int 511])) := Same.add hp2
          have e2 : (upd H5 p2 (.tup [.int 0, .int 511])) p2 = some (.tup [.int 0, .int 511]) := upd_same
          generalize upd H5 p2 (.tup [.int 0, .int 511]) = H6 at s6 e2 ⊢
          refine ⟨line5 (by simp), fun p3 hp3 => ?_⟩
          have s7 : Same H6 (upd H6 p3 (.tup [.int 0, .int 127])) := Same.add hp3
          have e3 : (upd H6 p3 (.tup [.int 0, .int 127])) p3 = some (.tup [.int 0, .int 127]) := upd_same
          generalize upd H6 p3 (.tup [.int 0, .int 127]) = H7 at s7 e3 ⊢
          refine ⟨line5 (by simp), fun p4 hp4 => ?_⟩
          have s8 : Same H7 (upd H7 p4 (.tup [.int 0, .int 63])) := Same.add hp4
          have e4 : (upd H7 p4 (.tup [.int 0, .int 63])) p4 = some (.tup [.int 0, .int 63]) := upd_same
          generalize upd H7 p4 (.tup [.int 0, .int 63]) = H8 at s8 e4 ⊢
          refine ⟨line5 (by simp), fun l hl => ?_⟩
          have s9 : Same H8 (upd H8 l (.lst [.ref p1, .ref p2, .ref p3, .ref p4])) := Same.add hl
          have e9 : (upd H8 l (.lst [.ref p1, .ref p2, .ref p3, .ref p4])) l = some (.lst [.ref p1, .ref p2, .ref p3, .ref p4]) := upd_same
          generalize upd H8 l (.lst [.ref p1, .ref p2, .ref p3, .ref p4]) = H9 at s9 e9 ⊢
          have kA := ((((kk.same s5).same s6).same s7).same s8).same s9
          have f1 := s9 _ _ (s8 _ _ (s7 _ _ (s6 _ _ e1)))
          have f2 := s9 _ _ (s8 _ _ (s7 _ _ e2))
          have f3 := s9 _ _ (s8 _ _ e3)
          have f4 := s9 _ _ e4
          have pick : ∃ tp lo hi, atI [V.ref p1, .ref p2, .ref p3, .ref p4] (way - 4) = some (.ref tp) ∧ H9 tp = some (.tup [.int lo, .int hi]) ∧ ((way = 4 ∧ lo = 0 - 32 ∧ hi = 31) ∨ (way = 5 ∧ lo = 0 ∧ hi = 511) ∨ (way = 6 ∧ lo = 0 ∧ hi = 127) ∨ (way = 7 ∧ lo = 0 ∧ hi = 63)) := by
            have e : way = 4 ∨ way = 5 ∨ way = 6 ∨ way = 7 := by omega
            rcases e with rfl | rfl | rfl | rfl
            · exact ⟨p1, 0 - 32, 31, atI_nat (j := 0) rfl, f1, .inl ⟨rfl, rfl, rfl⟩⟩
            · exact ⟨p2, 0, 511, atI_nat (j := 1) rfl, f2, .inr (.inl ⟨rfl, rfl, rfl⟩)⟩
            · exact ⟨p3, 0, 127, atI_nat (j := 2) rfl, f3, .inr (.inr (.inl ⟨rfl, rfl, rfl⟩))⟩
            · exact ⟨p4, 0, 63, atI_nat (j := 3) rfl, f4, .inr (.inr (.inr ⟨rfl, rfl, rfl⟩))⟩
          obtain ⟨tp, lo, hi, hat, htp, hlh⟩ := pick
          refine ⟨_, rfl, _, _, rfl, rfl, _, _, _, _, rfl, rfl, SqL.of e9, hat, tp, _, rfl, SqT.of htp, rfl, _, _, rfl, _, _, rfl, rfl, ?_⟩
          clear f1 f2 f3 f4 hat htp e9 e4 e3 e2 e1 s5 s6 s7 s8 s9 hp1 hp2 hp3 hp4 hl
          -- the word
          clear p1 p2 p3 p4 l
          refine ⟨line5 (by simp), fun p1 hp1 => ?_⟩
          have s5 : Same H9 (upd H9 p1 (.lst [.str "load", .str "store"])) := Same.add hp1
          have e1 : (upd H9 p1 (.lst [.str "load", .str "store"])) p1 = some (.lst [.str "load", .str "store"]) := upd_same
          generalize upd H9 p1 (.lst [.str "load", .str "store"]) = Ha at s5 e1 ⊢
          refine ⟨_, rfl, S, 2, rfl, (kA.same s5).st, by decide, by decide, fun r Hb r0 r1 k6 => ?_⟩
          obtain ⟨ls, hls⟩ := kA.st.lst
          have n1 : p1 ≠ S.st := Ne.symm (ne_of_none hls hp1)
          refine ⟨_, _, _, _, rfl, rfl, k6.lst n1 (SqL.of e1), two_ r0 r1, line5 (by simp), fun l hl => ?_⟩
          have s7 : Same Hb (upd Hb l (.lst [.str "plus", .str "set", .str "high", if r = 0 then .str "load" else .str "store"])) := Same.add hl
          have e7 : (upd Hb l (.lst [.str "plus", .str "set", .str "high", if r = 0 then .str "load" else .str "store"])) l = some (.lst [.str "plus", .str "set", .str "high", if r = 0 then .str "load" else .str "store"]) := upd_same
          generalize upd Hb l (.lst [.str "plus", .str "set", .str "high", if r = 0 then .str "load" else .str "store"]) = Hc at s7 e7 ⊢
          have kB := ((kA.same s5).trans k6).same s7
          have pick2 : ∃ wd : Str, atI [V.str "plus", .str "set", .str "high", (if r = 0 then V.str "load" else V.str "store")] (way - 4) = some (.str wd) ∧ ((way = 4 ∧ wd = "plus") ∨ (way = 5 ∧ wd = "set") ∨ (way = 6 ∧ wd = "high") ∨ (way = 7 ∧ wd = "load") ∨ (way = 7 ∧ wd = "store")) := by
            have e : way = 4 ∨ way = 5 ∨ way = 6 ∨ way = 7 := by omega
            rcases e with rfl | rfl | rfl | rfl
            · exact ⟨_, atI_nat (j := 0) rfl, .inl ⟨rfl, rfl⟩⟩
            · exact ⟨_, atI_nat (j := 1) rfl, .inr (.inl ⟨rfl, rfl⟩)⟩
            · exact ⟨_, atI_nat (j := 2) rfl, .inr (.inr (.inl ⟨rfl, rfl⟩))⟩
            · by_cases e0 : r = 0
              · rw [if_pos e0]
                exact ⟨_, atI_nat (j := 3) rfl, .inr (.inr (.inr (.inl ⟨rfl, rfl⟩)))⟩
              · rw [if_neg e0]
                exact ⟨_, atI_nat (j := 3) rfl, .inr (.inr (.inr (.inr ⟨rfl, rfl⟩)))⟩
          obtain ⟨wd, hat, hwd⟩ := pick2
          refine ⟨_, rfl, _, _, rfl, rfl, _, _, _, _, rfl, rfl, SqL.of e7, hat, ?_⟩
          clear hat e7 s7 s5 e1
          have glue : ∀ (Hd : Hp) (t1 : Addr) (xs : List V) (H7 : Hp), Kp K S Hd H7 → SqT K Hd t1 xs → SqT K H7 t1 xs := fun _ _ _ _ k h => k.tup h
          refine ⟨_, rfl, _, rfl, line5 (by simp), fun p1 hp1 => ?_⟩
          have sd : Same Hc (upd Hc p1 (.tup [.str wd, .int d])) := Same.add hp1
          have ed : (upd Hc p1 (.tup [.str wd, .int d])) p1 = some (.tup [.str wd, .int d]) := upd_same
          generalize upd Hc p1 (.tup [.str wd, .int d]) = Hd at sd ed ⊢
          refine ⟨_, rfl, line5 (by simp), fun p2 hp2 => ?_⟩
          have se : Same Hd (upd Hd p2 (.tup [.int 4, .int 7])) := Same.add hp2
          have ee : (upd Hd p2 (.tup [.int 4, .int 7])) p2 = some (.tup [.int 4, .int 7]) := upd_same
          generalize upd Hd p2 (.tup [.int 4, .int 7]) = He at se ee ⊢
          refine ⟨_, _, rfl, .inr (SqT.of ee), rfl, rfl, _, rfl, ?_⟩
          have kE := (kB.same sd).same se
          have ed2 := se _ _ ed
          show if inV (.int way) [.int 4, .int 7] = true then _ else _
          have hin : inV (.int way) [.int 4, .int 7] = decide (way = 4 ∨ way = 7) := by
            have e : way = 4 ∨ way = 5 ∨ way = 6 ∨ way = 7 := by omega
            rcases e with rfl | rfl | rfl | rfl <;> decide +kernel
          rw [hin]
          clear hin ee se hp2 glue
          by_cases c5 : way = 4 ∨ way = 7
          · rw [decide_eq_true c5]
            refine iteT ⟨_, rfl, line5 (by simp), fun p3 hp3 => ?_⟩
            have sf : Same He (upd He p3 (.tup [.int a])) := Same.add hp3
            have ef : (upd He p3 (.tup [.int a])) p3 = some (.tup [.int a]) := upd_same
            generalize upd He p3 (.tup [.int a]) = Hf at sf ef ⊢
            refine ⟨_, _, _, _, rfl, rfl, SqT.of (sf _ _ ed2), SqT.of ef, line5 (by simp), (fun z => by cases z), (fun _ z => by cases z), fun _ _ p4 hp4 => ?_⟩
            have sg : Same Hf (upd Hf p4 (.tup ([.str wd, .int d] ++ [.int a]))) := Same.add hp4
            have eg : (upd Hf p4 (.tup ([.str wd, .int d] ++ [.int a]))) p4 = some (.tup ([.str wd, .int d] ++ [.int a])) := upd_same
            generalize upd Hf p4 (.tup ([.str wd, .int d] ++ [.int a])) = Hg at sg eg ⊢
            have kG := (kE.same sf).same sg
            refine ⟨_, rfl, _, rfl, _, rfl, S, lo, hi, rfl, kG.st, by omega, by omega, fun n Hh n0 n1 kh => ⟨line5 (by simp), fun p5 hp5 => ?_⟩⟩
            have si : Same Hh (upd Hh p5 (.tup [.int n])) := Same.add hp5
            have ei : (upd Hh p5 (.tup [.int n])) p5 = some (.tup [.int n]) := upd_same
            generalize upd Hh p5 (.tup [.int n]) = Hi at si ei ⊢
            refine ⟨_, _, _, _, rfl, rfl, Same.tup si (kh.tup (SqT.of eg)), SqT.of ei, line5 (by simp), (fun z => by cases z), (fun _ z => by cases z), fun _ _ p6 hp6 => ?_⟩
            have kI := ((kG.trans kh).same si).add (o := .tup (([.str wd, .int d] ++ [.int a]) ++ [.int n])) hp6
            rcases hwd with ⟨w1, rfl⟩ | ⟨w1, rfl⟩ | ⟨w1, rfl⟩ | ⟨w1, rfl⟩ | ⟨w1, rfl⟩
            · exact q (.plus d a n) _ _ ⟨⟨by omega, by omega⟩, ⟨by omega, by omega⟩, by omega, by omega⟩ trivial trivial kI upd_same
            · omega
            · omega
            · exact q (.load d a n) _ _ ⟨⟨by omega, by omega⟩, ⟨by omega, by omega⟩, by omega, by omega⟩ trivial trivial kI upd_same
            · exact q (.store d a n) _ _ ⟨⟨by omega, by omega⟩, ⟨by omega, by omega⟩, by omega, by omega⟩ trivial trivial kI upd_same
          · rw [decide_eq_false c5]
            refine iteF ⟨line5 (by simp), fun p3 hp3 => ?_⟩
            have sf : Same He (upd He p3 (.tup [])) := Same.add hp3
            have ef : (upd He p3 (.tup [])) p3 = some (.tup []) := upd_same
            generalize upd He p3 (.tup []) = Hf at sf ef ⊢
            refine ⟨_, _, _, _, rfl, rfl, SqT.of (sf _ _ ed2), SqT.of ef, line5 (by simp), (fun z => by cases z), (fun _ _ => ?_), (fun _ z => absurd rfl z)⟩
            have kG := kE.same sf
            refine ⟨_, rfl, _, rfl, _, rfl, S, lo, hi, rfl, kG.st, by omega, by omega, fun n Hh n0 n1 kh => ⟨line5 (by simp), fun p5 hp5 => ?_⟩⟩
            have si : Same Hh (upd Hh p5 (.tup [.int n])) := Same.add hp5
            have ei : (upd Hh p5 (.tup [.int n])) p5 = some (.tup [.int n]) := upd_same
            generalize upd Hh p5 (.tup [.int n]) = Hi at si ei ⊢
            refine ⟨_, _, _, _, rfl, rfl, Same.tup si (kh.tup (SqT.of (sf _ _ ed2))), SqT.of ei, line5 (by simp), (fun z => by cases z), (fun _ z => by cases z), fun _ _ p6 hp6 => ?_⟩
            have kI := ((kG.trans kh).same si).add (o := .tup ([.str wd, .int d] ++ [.int n])) hp6
            rcases hwd with ⟨w1, rfl⟩ | ⟨w1, rfl⟩ | ⟨w1, rfl⟩ | ⟨w1, rfl⟩ | ⟨w1, rfl⟩
            · omega
            · exact q (.set d n) _ _ ⟨⟨by omega, by omega⟩, by omega, by omega⟩ trivial trivial kI upd_same
            · exact q (.high d n) _ _ ⟨⟨by omega, by omega⟩, by omega, by omega⟩ trivial trivial kI upd_same
            · omega
            · omega
        · rw [decide_eq_false c3]
          refine iteF ?_
          refine ⟨_, rfl, S, 3, rfl, kk.st, by decide, by decide, fun r H5 r0 r1 k5 => ⟨rfl, ?_⟩⟩
          refine ⟨_, rfl, _, rfl, _, _, rfl, rfl, S, m + 1, rfl, (kk.trans k5).st, by omega, by omega, fun g0 H6 g1 g2 k6 => ?_⟩
          have k7 := (kk.trans k5).trans k6
          refine ⟨fun σ H' => ∃ (fb : Bool) (g : Int), σ = [some (.ref S.st), some (.int p), some (.int m), some (.int way), some (.int d), some (.int a), some (.int b), none, none, none, some (.bl fb), some (.int g)] ∧ H' = H6 ∧ 0 ≤ g ∧ g ≤ m ∧ (fb = false → near g p), ?_, ?_⟩
          · refine ⟨_, rfl, _, rfl, ?_⟩
            cases hfar : decide (V.int r = V.int 0) with
            | true => exact iteF ⟨true, g0, rfl, rfl, g1, by omega, fun z => by cases z⟩
            | false =>
              refine iteT ?_
              refine ⟨_, rfl, _, rfl, _, _, rfl, rfl, _, rfl, _, _, rfl, rfl, _, rfl, _, _, rfl, _, _, rfl, _, _, rfl, _, _, rfl, ?_⟩
              have bound : ∀ t : Int, (if (if (if p - 15 < (if g0 < p + 16 then g0 else p + 16) then (if g0 < p + 16 then g0 else p + 16) else p - 15) < m then (if p - 15 < (if g0 < p + 16 then g0 else p + 16) then (if g0 < p + 16 then g0 else p + 16) else p - 15) else m) > 0 then (if (if p - 15 < (if g0 < p + 16 then g0 else p + 16) then (if g0 < p + 16 then g0 else p + 16) else p - 15) < m then (if p - 15 < (if g0 < p + 16 then g0 else p + 16) then (if g0 < p + 16 then g0 else p + 16) else p - 15) else m) else 0) = t → 0 ≤ t ∧ t ≤ m := by
                intro t ht
                repeat' split at ht
                all_goals omega
              generalize hT : (if (if (if p - 15 < (if g0 < p + 16 then g0 else p + 16) then (if g0 < p + 16 then g0 else p + 16) else p - 15) < m then (if p - 15 < (if g0 < p + 16 then g0 else p + 16) then (if g0 < p + 16 then g0 else p + 16) else p - 15) else m) > 0 then (if (if p - 15 < (if g0 < p + 16 then g0 else p + 16) then (if g0 < p + 16 then g0 else p + 16) else p - 15) < m then (if p - 15 < (if g0 < p + 16 then g0 else p + 16) then (if g0 < p + 16 then g0 else p + 16) else p - 15) else m) else 0) = t
              obtain ⟨t0, t1⟩ := bound t hT
              refine ⟨_, rfl, _, _, rfl, rfl, _, rfl, _, _, rfl, rfl, _, rfl, ?_⟩
              by_cases c6 : p - 15 ≤ t
              · rw [decide_eq_true c6]
                refine iteT ⟨_, rfl, _, _, rfl, rfl, _, _, rfl, rfl, _, rfl, ?_⟩
                refine ⟨!decide (t ≤ p + 16), t, rfl, rfl, t0, t1, fun z => ?_⟩
                have z2 : decide (t ≤ p + 16) = true := by
                  cases e : decide (t ≤ p + 16) with
                  | true => rfl
                  | false => rw [e] at z; cases z
                have z3 := of_decide_eq_true z2
                exact ⟨by omega, by omega⟩
              · rw [decide_eq_false c6]
                exact iteF ⟨_, rfl, true, t, rfl, rfl, t0, t1, fun z => by cases z⟩
          · rintro σ' H' ⟨fb, g, rfl, rfl, hg0, hg1, hn⟩
            refine ⟨_, rfl, rfl, _, rfl, ?_⟩
            by_cases c8 : way = 8
            · rw [decide_eq_true (congrArg V.int c8)]
              refine iteT ⟨rfl, fun l H7 hl s7 e7 => ⟨_, rfl, S, 7, rfl, k7.st.same s7, by decide, by decide, fun r H8 r0 r1 k8 => ?_⟩⟩
              obtain ⟨k, rfl, hk⟩ := nat_of r0 r1
              have hk : k < 7 := hk
              obtain ⟨ls, hls⟩ := k7.st.lst
              have nl : l ≠ S.st := Ne.symm (ne_of_none hls hl)
              refine ⟨_, _, _, _, rfl, rfl, k8.lst nl (SqL.of e7), at_nm hk, ?_⟩
              refine ⟨_, rfl, _, rfl, line5 (by simp), laid fun q' H9 _ s9 h9 => q (.jump k g fb) q' H9 ⟨hk, hg0, by omega⟩ ?_ hg1 (((k7.same s7).trans k8).same s9) h9⟩
              cases fb with
              | true => trivial
              | false => exact hn rfl
            · rw [decide_eq_false (fun z => c8 (V.int.inj z))]
              refine iteF ⟨_, rfl, _, rfl, line5 (by simp), laid fun q' H9 _ s9 h9 => q (.call g fb) q' H9 ⟨hg0, by omega⟩ ?_ hg1 (k7.same s9) h9⟩
              cases fb with
              | true => trivial
              | false => exact hn rfl
end
end Bm
set_option maxHeartbeats 1600000
namespace Bm
open PySem PySem.Spec PyProof.Rows L2
/-! sum of a tuple -/
def rSumT (K : PySem.W.Frag) : List V → Hp → VK → Prop := fun vs H Q => ∃ (a : Addr) (ns : List Int), vs = [V.ref a] ∧ SqT K H a (ns.map V.int) ∧ Q (.int ns.sum) H
theorem cr_sumT {X : Cx} (hc : X.calm = true) : CallR X (.builtin "sum") (rSumT X.K) := by
  intro pn s0 σ G ps us Q J rp ⟨a, zs, ep, st, q⟩
  subst ep
  obtain ⟨its, rv, tup, _⟩ := J.tuple st
  rw [Vals.ref1 rp]
  have ai := rv.ints
  obtain ⟨ys, ey⟩ := ai.allInts.items
  have nz : numsOf (intItems ys).toList = zs := ey ▸ ai.numsOf
  rw [nums_intItems] at nz
  rw [ey] at tup
  refine PySem.W.ktm_sumG (J.ok.hd hc) tup fun g1 tk t2 k2 => ?_
  rw [preSum_eq, List.take_of_length_le (by simp)]
  rw [nz]
  exact ⟨.int _, G, J.kept k2, ⟨_, rfl⟩, q⟩
theorem inV_strs (z : Str) (l : List Str) : inV (.str z) (l.map V.str) = l.any fun y => y == z := by
  unfold inV
  rw [List.any_map]
  rfl
theorem ixs {l : List Str} {k : Nat} (e : l[k]? = some (nm l k) ∧ ∀ m, m < k → l[m]? ≠ some (nm l k)) : (l.map V.str)[k]? = some (.str (nm l k)) ∧ eqV (.str (nm l k)) (.str (nm l k)) = true ∧
    ∀ (m : Nat) (z' : V), m < k → (l.map V.str)[m]? = some z' → eqV z' (.str (nm l k)) = false := by
  refine ⟨by rw [List.getElem?_map, e.1]; rfl, ?_, fun m z' hm hz => ?_⟩
  · show (nm l k == nm l k) = true
    exact beq_self_eq_true _
  · rw [List.getElem?_map] at hz
    cases em : l[m]? with
    | none => rw [em] at hz; cases hz
    | some y =>
      rw [em] at hz
      have ey : z' = .str y := (Option.some.inj hz).symm
      rw [ey]
      show (y == nm l k) = false
      refine beq_eq_false_iff_ne.mpr fun z => ?_
      rw [z] at em
      exact e.2 m hm em
theorem sg_in : ∀ k, k < 7 → (SG.any fun y => y == nm SG k) = true := by decide +kernel
theorem sm_in : ∀ k, k < 8 → (SG.any fun y => y == nm SM k) = false ∧ (SM.any fun y => y == nm SM k) = true := by decide +kernel
def FV : List Str := ["plus", "set", "high", "load", "store"]
theorem fv_at : ∀ k, k < 5 → (FV[k]? = some (nm FV k) ∧ ∀ m, m < k → FV[m]? ≠ some (nm FV k)) ∧ (SG.any fun y => y == nm FV k) = false ∧ (SM.any fun y => y == nm FV k) = false ∧ inV (.str (nm FV k)) [.str "jump", .str "call"] = false ∧
  inV (.str (nm FV k)) [.str "set", .str "high"] = decide (k = 1 ∨ k = 2) := by decide +kernel
theorem jc_in : (SG.any fun y => y == ("jump" : Str)) = false ∧ (SM.any fun y => y == ("jump" : Str)) = false ∧ (SG.any fun y => y == ("call" : Str)) = false ∧ (SM.any fun y => y == ("call" : Str)) = false ∧
  inV (.str "jump") [.str "jump", .str "call"] = true ∧ inV (.str "call") [.str "jump", .str "call"] = true := by decide +kernel
section
variable {P : Program} {w : World} {K : PySem.W.Frag} {mg : Str → Option Value} {base : Heap} {f : Addr} {fd : FuncData} {dvs : List V}
/-! _law_words -/
def spLWords (K : PySem.W.Frag) : Sp := fun vs H Q _ => ∃ (a : Addr) (d : De) (p : Int), vs = [.ref a, .int p] ∧ SqT K H a d.vals ∧ d.ok ∧ ∀ q H', Same H H' → H' q = some (.tup (vInts (d.words p))) → Q (.ref q) H'
abbrev N__law_words : List Str := ["_law_deed_here", "_law_place", "_law_word", "_law_rest", "_law_when", "_law_form", "_law_found"]
theorem sc__law_words : FnScope ["_law_deed_here", "_law_place", "_law_word", "_law_rest", "_law_when", "_law_form", "_law_found"] ["_law_deed_here", "_law_place"] (defScope s__law_words) := ⟨rfl, rfl, rfl, by decide +kernel, rfl, by decide +kernel, by decide +kernel⟩
theorem De.vals_cons (d : De) : ∃ z r, d.vals = .str z :: r := by cases d <;> exact ⟨_, _, rfl⟩
theorem ok_lwords (F : FunD K "_law_words" "_law_words" (defArgs s__law_words) (defBody s__law_words) (defScope s__law_words) dvs [] f fd) (k__law_plain : KnNm P w K mg base "_law_plain" SG) (k__law_pairs : KnNm P w K mg base "_law_pairs" SM) (k__law_times : KnNm P w K mg base "_law_times" TM)
    (g_sum : mg "sum" = none) (g_int : mg "int" = none) : FnOk P w K mg base CX0 2 f fd ["_law_deed_here", "_law_place"] (spLWords K) := by
  refine F.ok sc__law_words (fun vs H Q E h => ?_) (fun cdv A outer s H vs Q E hr h => ?_)
  · obtain ⟨a, d, p, rfl, _⟩ := h
    rfl
  · obtain ⟨a, d, p, rfl, hS, hok, q⟩ := h
    refine ⟨_, PSs.nox (pss_cons (ps_par (i := 2) (j := 3) rfl sc__law_words.nd rfl rfl (by decide) rfl rfl (pa_cons (pe_ix ix_tup (pv 0) pe_int (fun _ _ => rfl)) (pa_cons (pe_slice sl_tupA (pv 0) (po_some pe_int) po_none) pa_nil)) rfl)
      (pss_cons (ps_if (pt_cmpR op_in_seq (pv 2) (pk0 k__law_plain hr (by decide) rfl pass0) rfl) (pss_one (ps_ret (pe_tup (pa_cons (pe_op op_add (pe_op op_mul (pe_bm PySem.F.plainAttrs_list PySem.F.slot_list_index PySem.F.type_list_index mt_index (pk0 k__law_plain hr (by decide) rfl pass0) (pa_cons (pv 2) pa_nil)) pe_int) (pe_op op_mul (pe_callB (cr_sumT rfl) rfl g_sum (by decide +kernel) (pa_cons (pv 3) pa_nil)) pe_int)) pa_nil)))) pss_nil)
      (pss_cons (ps_if (pt_cmpR op_in_seq (pv 2) (pk0 k__law_pairs hr (by decide) rfl pass0) rfl) (pss_one (ps_ret (pe_tup (pa_cons (pe_op op_add (pe_op op_add (pe_op op_add (pe_op op_add pe_int (pe_op op_mul (pe_ix ix_tup (pv 3) pe_int (fun _ _ => rfl)) pe_int)) (pe_op op_mul (pe_ix ix_tup (pv 3) pe_int (fun _ _ => rfl)) pe_int)) (pe_op op_mul (pe_ix ix_tup (pv 3) pe_int (fun _ _ => rfl)) pe_int)) (pe_bm PySem.F.plainAttrs_list PySem.F.slot_list_index PySem.F.type_list_index mt_index (pk0 k__law_pairs hr (by decide) rfl pass0) (pa_cons (pv 2) pa_nil))) pa_nil)))) pss_nil)
      (pss_cons (ps_if (pt_cmpR op_in_seq (pv 2) (pe_tup (pa_cons pe_str (pa_cons pe_str pa_nil))) rfl) (pss_cons (ps_set (i := 4) sc__law_words.nd rfl (Or.inl rfl) (pe_ifExp (pt_cmpR op_eq (pv 2) pe_str (nomark _)) (pe_op op_mul (pe_bm PySem.F.plainAttrs_list PySem.F.slot_list_index PySem.F.type_list_index mt_index (pk0 k__law_times hr (by decide) rfl pass0) (pa_cons (pe_ix ix_tup (pv 3) pe_int (fun _ _ => rfl)) pa_nil)) pe_int) pe_int))
      (pss_cons (ps_set (i := 5) sc__law_words.nd rfl (Or.inl rfl) (pe_ix ix_list (pe_lst (pa_cons pe_int (pa_cons pe_int (pa_cons pe_int (pa_cons pe_int pa_nil))))) (pe_op op_add (pe_op op_mul pe_int (pe_callTy call_int1 rfl g_int (by decide +kernel) (pa_cons (pe_cmpR op_eq (pv 2) pe_str (nomark _)) pa_nil))) (pe_callTy call_int1 rfl g_int (by decide +kernel) (pa_cons (pe_ix ix_tup (pv 0) (pe_un un_neg pe_int) (fun _ _ => rfl)) pa_nil))) (fun _ _ => rfl)))
      (pss_one (ps_ret (pe_ifExp (pt_val (pe_ix ix_tup (pv 0) (pe_un un_neg pe_int) (fun _ _ => rfl))) (pe_tup (pa_cons (pe_op op_add (pv 5) (pv 4)) (pa_cons (pe_ix ix_tup (pv 0) (pe_un un_neg pe_int) (fun _ _ => rfl)) pa_nil))) (pe_tup (pa_cons (pe_op op_add (pe_op op_add (pv 5) (pv 4)) (pe_op op_modN (pe_op op_sub (pe_op op_sub (pe_ix ix_tup (pv 0) (pe_un un_neg pe_int) (fun _ _ => rfl)) (pv 1)) pe_int) pe_int)) pa_nil))))))) pss_nil)
      (pss_cons (ps_set (i := 6) sc__law_words.nd rfl (Or.inl rfl) (pe_op op_add (pe_op op_mul (pe_op op_add (pe_bm PySem.F.plainAttrs_list PySem.F.slot_list_index PySem.F.type_list_index mt_index (pe_lst (pa_cons pe_str (pa_cons pe_str (pa_cons pe_str (pa_cons pe_str (pa_cons pe_str pa_nil)))))) (pa_cons (pv 2) pa_nil)) pe_int) pe_int) (pe_op op_mul (pe_ix ix_tup (pv 3) pe_int (fun _ _ => rfl)) pe_int)))
      (pss_cons (ps_if (pt_cmpR op_in_seq (pv 2) (pe_tup (pa_cons pe_str (pa_cons pe_str pa_nil))) rfl) (pss_one (ps_ret (pe_tup (pa_cons (pe_op op_add (pv 6) (pe_ix ix_tup (pv 3) pe_int (fun _ _ => rfl))) pa_nil)))) pss_nil)
      (pss_one (ps_ret (pe_tup (pa_cons (pe_op op_add (pe_op op_add (pv 6) (pe_op op_mul (pe_ix ix_tup (pv 3) pe_int (fun _ _ => rfl)) pe_int)) (pe_op op_modN (pe_ix ix_tup (pv 3) pe_int (fun _ _ => rfl)) pe_int)) pa_nil)))))))))), ?_⟩
    have fin : ∀ (z z' : Int) (H3 : Hp), Same H H3 → d.words p = [z'] → z = z' → ∀ q', H3 q' = none → Q (.ref q') (upd H3 q' (.tup [.int z])) := fun z z' H3 s3 e1 e2 q' hq => q q' _ (Same.trans s3 (Same.add hq)) (by rw [upd_same, e1, e2]; rfl)
    have atT : ∀ (x0 x1 x2 : V), atI [x0, x1, x2] 2 = some x2 ∧ atI [x0, x1, x2] 1 = some x1 ∧ atI [x0, x1, x2] 0 = some x0 := fun x0 x1 x2 => ⟨atI_nat (j := 2) rfl, atI_nat (j := 1) rfl, atI_nat (j := 0) rfl⟩
    have at2 : ∀ (x0 x1 : V), atI [x0, x1] 1 = some x1 := fun x0 x1 => atI_nat (j := 1) rfl
    cases d with
    | sgl k =>
      have hk : k < 3 := hok
      have hk7 : k < 7 := Nat.lt_of_lt_of_le hk (by decide)
      have hS : SqT K H a [.str (nm SG k)] := hS
      refine ⟨_, rfl, _, _, _, _, rfl, rfl, hS, at0, _, rfl, _, rfl, a, _, rfl, hS, fun w => absurd w (not_whole_tail _ _), fun _ b hb => ⟨_, _, rfl, ?_⟩⟩
      have s1 : Same H (upd H b (.tup (cutV (.str (nm SG k) :: []) (some 1) none))) := Same.add hb
      have h1 : (upd H b (.tup (cutV (.str (nm SG k) :: []) (some 1) none))) b = some (.tup ([])) := upd_same.trans (congrArg (fun l => some (HO.tup l)) (cut_tail _ _))
      generalize upd H b (.tup (cutV (.str (nm SG k) :: []) (some 1) none)) = H1 at s1 h1 ⊢
      refine ⟨_, rfl, rfl, fun l1 H2 _ s2 h2 => ⟨_, _, rfl, .inl (SqL.of h2), rfl, flat_strs SG, _, rfl, ?_⟩⟩
      show if inV (.str (nm SG k)) (SG.map V.str) = true then _ else _
      rw [inV_strs, sg_in k hk7]
      refine iteT ⟨rfl, fun l2 H3 _ s3 h3 => ⟨.inl ⟨rfl, _, SqL.of h3⟩, _, rfl, _, _, _, _, _, rfl, rfl, SqL.of h3, rfl, flat_strs _, (ixs (sg_at k hk7)).1, (ixs (sg_at k hk7)).2.1, (ixs (sg_at k hk7)).2.2, ?_⟩⟩
      refine ⟨_, _, rfl, rfl, .inl ⟨by omega, by omega⟩, _, rfl, b, [], rfl, SqT.of (s3 _ _ (s2 _ _ h1)), _, _, rfl, rfl, .inl ⟨by decide, by decide⟩, _, _, rfl, rfl, line5 (by simp), ?_⟩
      exact fin _ _ H3 (Same.trans s1 (Same.trans s2 s3)) rfl (by show (k : Int) * 512 + ([] : List Int).sum * 64 = k * 512; simp)
    | reg k x =>
      obtain ⟨hk3, hk7, hx⟩ := hok
      have hx : 0 ≤ x ∧ x ≤ 7 := hx
      have hS : SqT K H a [.str (nm SG k), .int x] := hS
      refine ⟨_, rfl, _, _, _, _, rfl, rfl, hS, at0, _, rfl, _, rfl, a, _, rfl, hS, fun w => absurd w (not_whole_tail _ _), fun _ b hb => ⟨_, _, rfl, ?_⟩⟩
      have s1 : Same H (upd H b (.tup (cutV (.str (nm SG k) :: [.int x]) (some 1) none))) := Same.add hb
      have h1 : (upd H b (.tup (cutV (.str (nm SG k) :: [.int x]) (some 1) none))) b = some (.tup ([.int x])) := upd_same.trans (congrArg (fun l => some (HO.tup l)) (cut_tail _ _))
      generalize upd H b (.tup (cutV (.str (nm SG k) :: [.int x]) (some 1) none)) = H1 at s1 h1 ⊢
      refine ⟨_, rfl, rfl, fun l1 H2 _ s2 h2 => ⟨_, _, rfl, .inl (SqL.of h2), rfl, flat_strs SG, _, rfl, ?_⟩⟩
      show if inV (.str (nm SG k)) (SG.map V.str) = true then _ else _
      rw [inV_strs, sg_in k hk7]
      refine iteT ⟨rfl, fun l2 H3 _ s3 h3 => ⟨.inl ⟨rfl, _, SqL.of h3⟩, _, rfl, _, _, _, _, _, rfl, rfl, SqL.of h3, rfl, flat_strs _, (ixs (sg_at k hk7)).1, (ixs (sg_at k hk7)).2.1, (ixs (sg_at k hk7)).2.2, ?_⟩⟩
      refine ⟨_, _, rfl, rfl, .inl ⟨by omega, by omega⟩, _, rfl, b, [x], rfl, SqT.of (s3 _ _ (s2 _ _ h1)), _, _, rfl, rfl, .inl ⟨by simp; omega, by simp; omega⟩, _, _, rfl, rfl, line5 (by simp), ?_⟩
      exact fin _ _ H3 (Same.trans s1 (Same.trans s2 s3)) rfl (by show (k : Int) * 512 + ([x] : List Int).sum * 64 = k * 512 + x * 64; simp)
    | sum k x y z =>
      obtain ⟨hk, hx, hy, hz⟩ := hok
      have hx : 0 ≤ x ∧ x ≤ 7 := hx
      have hy : 0 ≤ y ∧ y ≤ 7 := hy
      have hz : 0 ≤ z ∧ z ≤ 7 := hz
      have hS : SqT K H a [.str (nm SM k), .int x, .int y, .int z] := hS
      refine ⟨_, rfl, _, _, _, _, rfl, rfl, hS, at0, _, rfl, _, rfl, a, _, rfl, hS, fun w => absurd w (not_whole_tail _ _), fun _ b hb => ⟨_, _, rfl, ?_⟩⟩
      have s1 : Same H (upd H b (.tup (cutV (.str (nm SM k) :: [.int x, .int y, .int z]) (some 1) none))) := Same.add hb
      have h1 : (upd H b (.tup (cutV (.str (nm SM k) :: [.int x, .int y, .int z]) (some 1) none))) b = some (.tup ([.int x, .int y, .int z])) := upd_same.trans (congrArg (fun l => some (HO.tup l)) (cut_tail _ _))
      generalize upd H b (.tup (cutV (.str (nm SM k) :: [.int x, .int y, .int z]) (some 1) none)) = H1 at s1 h1 ⊢
      refine ⟨_, rfl, rfl, fun l1 H2 _ s2 h2 => ⟨_, _, rfl, .inl (SqL.of h2), rfl, flat_strs SG, _, rfl, ?_⟩⟩
      show if inV (.str (nm SM k)) (SG.map V.str) = true then _ else _
      rw [inV_strs, (sm_in k hk).1]
      refine iteF ⟨_, rfl, rfl, fun l2 H3 _ s3 h3 => ⟨_, _, rfl, .inl (SqL.of h3), rfl, flat_strs SM, _, rfl, ?_⟩⟩
      show if inV (.str (nm SM k)) (SM.map V.str) = true then _ else _
      rw [inV_strs, (sm_in k hk).2]
      have h1' := SqT.of (K := K) (s3 _ _ (s2 _ _ h1))
      refine iteT ⟨_, rfl, _, _, _, _, rfl, rfl, h1', (atT _ _ _).2.2, _, _, rfl, rfl, .inl ⟨by omega, by omega⟩, _, _, rfl, rfl, _, rfl, _, _, _, _, rfl, rfl, h1', (atT _ _ _).2.1, _, _, rfl, rfl, .inl ⟨by omega, by omega⟩, _, _, rfl, rfl,
        _, rfl, _, _, _, _, rfl, rfl, h1', (atT _ _ _).1, _, _, rfl, rfl, .inl ⟨by omega, by omega⟩, _, _, rfl, rfl, rfl, fun l3 H4 _ s4 h4 => ⟨.inl ⟨rfl, _, SqL.of h4⟩, _, rfl, _, _, _, _, _, rfl, rfl, SqL.of h4, rfl, flat_strs _, (ixs (sm_at k hk)).1, (ixs (sm_at k hk)).2.1, (ixs (sm_at k hk)).2.2, ?_⟩⟩
      refine ⟨_, _, rfl, rfl, line5 (by simp), ?_⟩
      exact fin _ _ H4 (Same.trans s1 (Same.trans s2 (Same.trans s3 s4))) rfl rfl
    | plus x y n =>
      have hS : SqT K H a [.str (nm FV 0), .int x, .int y, .int n] := hS
      have hx : 0 ≤ x ∧ x ≤ 7 := hok.1
      have hy : 0 ≤ y ∧ y ≤ 7 := hok.2.1
      have hn := hok.2.2
      refine ⟨_, rfl, _, _, _, _, rfl, rfl, hS, at0, _, rfl, _, rfl, a, _, rfl, hS, fun w => absurd w (not_whole_tail _ _), fun _ b hb => ⟨_, _, rfl, ?_⟩⟩
      have s1 : Same H (upd H b (.tup (cutV (.str (nm FV 0) :: [.int x, .int y, .int n]) (some 1) none))) := Same.add hb
      have h1 : (upd H b (.tup (cutV (.str (nm FV 0) :: [.int x, .int y, .int n]) (some 1) none))) b = some (.tup ([.int x, .int y, .int n])) := upd_same.trans (congrArg (fun l => some (HO.tup l)) (cut_tail _ _))
      generalize upd H b (.tup (cutV (.str (nm FV 0) :: [.int x, .int y, .int n]) (some 1) none)) = H1 at s1 h1 ⊢
      refine ⟨_, rfl, rfl, fun l1 H2 _ s2 h2 => ⟨_, _, rfl, .inl (SqL.of h2), rfl, flat_strs SG, _, rfl, ?_⟩⟩
      show if inV (.str (nm FV 0)) (SG.map V.str) = true then _ else _
      rw [inV_strs, (fv_at 0 (by decide)).2.1]
      refine iteF ⟨_, rfl, rfl, fun l2 H3 _ s3 h3 => ⟨_, _, rfl, .inl (SqL.of h3), rfl, flat_strs SM, _, rfl, ?_⟩⟩
      show if inV (.str (nm FV 0)) (SM.map V.str) = true then _ else _
      rw [inV_strs, (fv_at 0 (by decide)).2.2.1]
      refine iteF ⟨_, rfl, line5 (by simp), fun p3 hp3 => ?_⟩
      have s4 : Same H3 (upd H3 p3 (.tup [.str "jump", .str "call"])) := Same.add hp3
      have h4 : (upd H3 p3 (.tup [.str "jump", .str "call"])) p3 = some (.tup [.str "jump", .str "call"]) := upd_same
      generalize upd H3 p3 (.tup [.str "jump", .str "call"]) = H4 at s4 h4 ⊢
      refine ⟨_, _, rfl, .inr (SqT.of h4), rfl, rfl, _, rfl, ?_⟩
      show if inV (.str (nm FV 0)) [.str "jump", .str "call"] = true then _ else _
      rw [(fv_at 0 (by decide)).2.2.2.1]
      have h1' := SqT.of (K := K) (s4 _ _ (s3 _ _ (s2 _ _ h1)))
      have sA := Same.trans s1 (Same.trans s2 (Same.trans s3 s4))
      refine iteF ⟨line5 (by simp), fun l5 hl5 => ?_⟩
      have s5 : Same H4 (upd H4 l5 (.lst [.str "plus", .str "set", .str "high", .str "load", .str "store"])) := Same.add hl5
      have h5 : (upd H4 l5 (.lst [.str "plus", .str "set", .str "high", .str "load", .str "store"])) l5 = some (.lst [.str "plus", .str "set", .str "high", .str "load", .str "store"]) := upd_same
      generalize upd H4 l5 (.lst [.str "plus", .str "set", .str "high", .str "load", .str "store"]) = H5 at s5 h5 ⊢
      have h5 : H5 l5 = some (.lst (FV.map V.str)) := h5
      have h1'' := Same.tup s5 h1'
      refine ⟨.inl ⟨rfl, _, SqL.of h5⟩, _, rfl, _, _, _, _, _, rfl, rfl, SqL.of h5, rfl, flat_strs _, (ixs (fv_at 0 (by decide)).1).1, (ixs (fv_at 0 (by decide)).1).2.1, (ixs (fv_at 0 (by decide)).1).2.2, ?_⟩
      refine ⟨_, _, rfl, rfl, _, _, rfl, rfl, .inl ⟨by decide, by decide⟩, _, rfl, _, _, _, _, rfl, rfl, h1'', at0, _, _, rfl, rfl, .inl ⟨by omega, by omega⟩, _, _, rfl, rfl, ?_⟩
      refine ⟨_, rfl, line5 (by simp), fun p6 hp6 => ?_⟩
      have s6 : Same H5 (upd H5 p6 (.tup [.str "set", .str "high"])) := Same.add hp6
      have h6 : (upd H5 p6 (.tup [.str "set", .str "high"])) p6 = some (.tup [.str "set", .str "high"]) := upd_same
      generalize upd H5 p6 (.tup [.str "set", .str "high"]) = H6 at s6 h6 ⊢
      refine ⟨_, _, rfl, .inr (SqT.of h6), rfl, rfl, _, rfl, ?_⟩
      have h1s := Same.tup s6 h1''
      show if inV (.str (nm FV 0)) [.str "set", .str "high"] = true then _ else _
      rw [(fv_at 0 (by decide)).2.2.2.2]
      refine iteF ⟨_, rfl, _, rfl, _, _, _, _, rfl, rfl, h1s, (atT _ _ _).2.1, _, _, rfl, rfl, .inl ⟨by omega, by omega⟩, _, _, rfl, rfl, _, rfl, _, _, _, _, rfl, rfl, h1s, (atT _ _ _).1, _, _, rfl, rfl, (show (64 : Int) ≠ 0 by decide), _, _, rfl, rfl, line5 (by simp), ?_⟩
      refine fin _ _ H6 (Same.trans sA (Same.trans s5 s6)) rfl ?_
      show (((0 : Nat) : Int) + 2) * 4096 + x * 512 + y * 64 + n.fmod 64 = 8192 + x * 512 + y * 64 + n % 64
      rw [Int.fmod_eq_emod_of_nonneg _ (by decide)]
      omega
    | set x n =>
      have hS : SqT K H a [.str (nm FV 1), .int x, .int n] := hS
      have hx : 0 ≤ x ∧ x ≤ 7 := hok.1
      have hn := hok.2
      refine ⟨_, rfl, _, _, _, _, rfl, rfl, hS, at0, _, rfl, _, rfl, a, _, rfl, hS, fun w => absurd w (not_whole_tail _ _), fun _ b hb => ⟨_, _, rfl, ?_⟩⟩
      have s1 : Same H (upd H b (.tup (cutV (.str (nm FV 1) :: [.int x, .int n]) (some 1) none))) := Same.add hb
      have h1 : (upd H b (.tup (cutV (.str (nm FV 1) :: [.int x, .int n]) (some 1) none))) b = some (.tup ([.int x, .int n])) := upd_same.trans (congrArg (fun l => some (HO.tup l)) (cut_tail _ _))
      generalize upd H b (.tup (cutV (.str (nm FV 1) :: [.int x, .int n]) (some 1) none)) = H1 at s1 h1 ⊢
      refine ⟨_, rfl, rfl, fun l1 H2 _ s2 h2 => ⟨_, _, rfl, .inl (SqL.of h2), rfl, flat_strs SG, _, rfl, ?_⟩⟩
      show if inV (.str (nm FV 1)) (SG.map V.str) = true then _ else _
      rw [inV_strs, (fv_at 1 (by decide)).2.1]
      refine iteF ⟨_, rfl, rfl, fun l2 H3 _ s3 h3 => ⟨_, _, rfl, .inl (SqL.of h3), rfl, flat_strs SM, _, rfl, ?_⟩⟩
      show if inV (.str (nm FV 1)) (SM.map V.str) = true then _ else _
      rw [inV_strs, (fv_at 1 (by decide)).2.2.1]
      refine iteF ⟨_, rfl, line5 (by simp), fun p3 hp3 => ?_⟩
      have s4 : Same H3 (upd H3 p3 (.tup [.str "jump", .str "call"])) := Same.add hp3
      have h4 : (upd H3 p3 (.tup [.str "jump", .str "call"])) p3 = some (.tup [.str "jump", .str "call"]) := upd_same
      generalize upd H3 p3 (.tup [.str "jump", .str "call"]) = H4 at s4 h4 ⊢
      refine ⟨_, _, rfl, .inr (SqT.of h4), rfl, rfl, _, rfl, ?_⟩
      show if inV (.str (nm FV 1)) [.str "jump", .str "call"] = true then _ else _
      rw [(fv_at 1 (by decide)).2.2.2.1]
      have h1' := SqT.of (K := K) (s4 _ _ (s3 _ _ (s2 _ _ h1)))
      have sA := Same.trans s1 (Same.trans s2 (Same.trans s3 s4))
      refine iteF ⟨line5 (by simp), fun l5 hl5 => ?_⟩
      have s5 : Same H4 (upd H4 l5 (.lst [.str "plus", .str "set", .str "high", .str "load", .str "store"])) := Same.add hl5
      have h5 : (upd H4 l5 (.lst [.str "plus", .str "set", .str "high", .str "load", .str "store"])) l5 = some (.lst [.str "plus", .str "set", .str "high", .str "load", .str "store"]) := upd_same
      generalize upd H4 l5 (.lst [.str "plus", .str "set", .str "high", .str "load", .str "store"]) = H5 at s5 h5 ⊢
      have h5 : H5 l5 = some (.lst (FV.map V.str)) := h5
      have h1'' := Same.tup s5 h1'
      refine ⟨.inl ⟨rfl, _, SqL.of h5⟩, _, rfl, _, _, _, _, _, rfl, rfl, SqL.of h5, rfl, flat_strs _, (ixs (fv_at 1 (by decide)).1).1, (ixs (fv_at 1 (by decide)).1).2.1, (ixs (fv_at 1 (by decide)).1).2.2, ?_⟩
      refine ⟨_, _, rfl, rfl, _, _, rfl, rfl, .inl ⟨by decide, by decide⟩, _, rfl, _, _, _, _, rfl, rfl, h1'', at0, _, _, rfl, rfl, .inl ⟨by omega, by omega⟩, _, _, rfl, rfl, ?_⟩
      refine ⟨_, rfl, line5 (by simp), fun p6 hp6 => ?_⟩
      have s6 : Same H5 (upd H5 p6 (.tup [.str "set", .str "high"])) := Same.add hp6
      have h6 : (upd H5 p6 (.tup [.str "set", .str "high"])) p6 = some (.tup [.str "set", .str "high"]) := upd_same
      generalize upd H5 p6 (.tup [.str "set", .str "high"]) = H6 at s6 h6 ⊢
      refine ⟨_, _, rfl, .inr (SqT.of h6), rfl, rfl, _, rfl, ?_⟩
      have h1s := Same.tup s6 h1''
      show if inV (.str (nm FV 1)) [.str "set", .str "high"] = true then _ else _
      rw [(fv_at 1 (by decide)).2.2.2.2]
      refine iteT ⟨_, rfl, _, rfl, _, _, _, _, rfl, rfl, h1s, at2 _ _, _, _, rfl, rfl, line5 (by simp), ?_⟩
      refine fin _ _ H6 (Same.trans sA (Same.trans s5 s6)) rfl ?_
      show (((1 : Nat) : Int) + 2) * 4096 + x * 512 + n = 12288 + x * 512 + n
      omega
    | high x n =>
      have hS : SqT K H a [.str (nm FV 2), .int x, .int n] := hS
      have hx : 0 ≤ x ∧ x ≤ 7 := hok.1
      have hn := hok.2
      refine ⟨_, rfl, _, _, _, _, rfl, rfl, hS, at0, _, rfl, _, rfl, a, _, rfl, hS, fun w => absurd w (not_whole_tail _ _), fun _ b hb => ⟨_, _, rfl, ?_⟩⟩
      have s1 : Same H (upd H b (.tup (cutV (.str (nm FV 2) :: [.int x, .int n]) (some 1) none))) := Same.add hb
      have h1 : (upd H b (.tup (cutV (.str (nm FV 2) :: [.int x, .int n]) (some 1) none))) b = some (.tup ([.int x, .int n])) := upd_same.trans (congrArg (fun l => some (HO.tup l)) (cut_tail _ _))
      generalize upd H b (.tup (cutV (.str (nm FV 2) :: [.int x, .int n]) (some 1) none)) = H1 at s1 h1 ⊢
      refine ⟨_, rfl, rfl, fun l1 H2 _ s2 h2 => ⟨_, _, rfl, .inl (SqL.of h2), rfl, flat_strs SG, _, rfl, ?_⟩⟩
      show if inV (.str (nm FV 2)) (SG.map V.str) = true then _ else _
      rw [inV_strs, (fv_at 2 (by decide)).2.1]
      refine iteF ⟨_, rfl, rfl, fun l2 H3 _ s3 h3 => ⟨_, _, rfl, .inl (SqL.of h3), rfl, flat_strs SM, _, rfl, ?_⟩⟩
      show if inV (.str (nm FV 2)) (SM.map V.str) = true then _ else _
      rw [inV_strs, (fv_at 2 (by decide)).2.2.1]
      refine iteF ⟨_, rfl, line5 (by simp), fun p3 hp3 => ?_⟩
      have s4 : Same H3 (upd H3 p3 (.tup [.str "jump", .str "call"])) := Same.add hp3
      have h4 : (upd H3 p3 (.tup [.str "jump", .str "call"])) p3 = some (.tup [.str "jump", .str "call"]) := upd_same
      generalize upd H3 p3 (.tup [.str "jump", .str "call"]) = H4 at s4 h4 ⊢
      refine ⟨_, _, rfl, .inr (SqT.of h4), rfl, rfl, _, rfl, ?_⟩
      show if inV (.str (nm FV 2)) [.str "jump", .str "call"] = true then _ else _
      rw [(fv_at 2 (by decide)).2.2.2.1]
      have h1' := SqT.of (K := K) (s4 _ _ (s3 _ _ (s2 _ _ h1)))
      have sA := Same.trans s1 (Same.trans s2 (Same.trans s3 s4))
      refine iteF ⟨line5 (by simp), fun l5 hl5 => ?_⟩
      have s5 : Same H4 (upd H4 l5 (.lst [.str "plus", .str "set", .str "high", .str "load", .str "store"])) := Same.add hl5
      have h5 : (upd H4 l5 (.lst [.str "plus", .str "set", .str "high", .str "load", .str "store"])) l5 = some (.lst [.str "plus", .str "set", .str "high", .str "load", .str "store"]) := upd_same
      generalize upd H4 l5 (.lst [.str "plus", .str "set", .str "high", .str "load", .str "store"]) = H5 at s5 h5 ⊢
      have h5 : H5 l5 = some (.lst (FV.map V.str)) := h5
      have h1'' := Same.tup s5 h1'
      refine ⟨.inl ⟨rfl, _, SqL.of h5⟩, _, rfl, _, _, _, _, _, rfl, rfl, SqL.of h5, rfl, flat_strs _, (ixs (fv_at 2 (by decide)).1).1, (ixs (fv_at 2 (by decide)).1).2.1, (ixs (fv_at 2 (by decide)).1).2.2, ?_⟩
      refine ⟨_, _, rfl, rfl, _, _, rfl, rfl, .inl ⟨by decide, by decide⟩, _, rfl, _, _, _, _, rfl, rfl, h1'', at0, _, _, rfl, rfl, .inl ⟨by omega, by omega⟩, _, _, rfl, rfl, ?_⟩
      refine ⟨_, rfl, line5 (by simp), fun p6 hp6 => ?_⟩
      have s6 : Same H5 (upd H5 p6 (.tup [.str "set", .str "high"])) := Same.add hp6
      have h6 : (upd H5 p6 (.tup [.str "set", .str "high"])) p6 = some (.tup [.str "set", .str "high"]) := upd_same
      generalize upd H5 p6 (.tup [.str "set", .str "high"]) = H6 at s6 h6 ⊢
      refine ⟨_, _, rfl, .inr (SqT.of h6), rfl, rfl, _, rfl, ?_⟩
      have h1s := Same.tup s6 h1''
      show if inV (.str (nm FV 2)) [.str "set", .str "high"] = true then _ else _
      rw [(fv_at 2 (by decide)).2.2.2.2]
      refine iteT ⟨_, rfl, _, rfl, _, _, _, _, rfl, rfl, h1s, at2 _ _, _, _, rfl, rfl, line5 (by simp), ?_⟩
      refine fin _ _ H6 (Same.trans sA (Same.trans s5 s6)) rfl ?_
      show (((2 : Nat) : Int) + 2) * 4096 + x * 512 + n = 16384 + x * 512 + n
      omega
    | load x y n =>
      have hS : SqT K H a [.str (nm FV 3), .int x, .int y, .int n] := hS
      have hx : 0 ≤ x ∧ x ≤ 7 := hok.1
      have hy : 0 ≤ y ∧ y ≤ 7 := hok.2.1
      have hn := hok.2.2
      refine ⟨_, rfl, _, _, _, _, rfl, rfl, hS, at0, _, rfl, _, rfl, a, _, rfl, hS, fun w => absurd w (not_whole_tail _ _), fun _ b hb => ⟨_, _, rfl, ?_⟩⟩
      have s1 : Same H (upd H b (.tup (cutV (.str (nm FV 3) :: [.int x, .int y, .int n]) (some 1) none))) := Same.add hb
      have h1 : (upd H b (.tup (cutV (.str (nm FV 3) :: [.int x, .int y, .int n]) (some 1) none))) b = some (.tup ([.int x, .int y, .int n])) := upd_same.trans (congrArg (fun l => some (HO.tup l)) (cut_tail _ _))
      generalize upd H b (.tup (cutV (.str (nm FV 3) :: [.int x, .int y, .int n]) (some 1) none)) = H1 at s1 h1 ⊢
      refine ⟨_, rfl, rfl, fun l1 H2 _ s2 h2 => ⟨_, _, rfl, .inl (SqL.of h2), rfl, flat_strs SG, _, rfl, ?_⟩⟩
      show if inV (.str (nm FV 3)) (SG.map V.str) = true then _ else _
      rw [inV_strs, (fv_at 3 (by decide)).2.1]
      refine iteF ⟨_, rfl, rfl, fun l2 H3 _ s3 h3 => ⟨_, _, rfl, .inl (SqL.of h3), rfl, flat_strs SM, _, rfl, ?_⟩⟩
      show if inV (.str (nm FV 3)) (SM.map V.str) = true then _ else _
      rw [inV_strs, (fv_at 3 (by decide)).2.2.1]
      refine iteF ⟨_, rfl, line5 (by simp), fun p3 hp3 => ?_⟩
      have s4 : Same H3 (upd H3 p3 (.tup [.str "jump", .str "call"])) := Same.add hp3
      have h4 : (upd H3 p3 (.tup [.str "jump", .str "call"])) p3 = some (.tup [.str "jump", .str "call"]) := upd_same
      generalize upd H3 p3 (.tup [.str "jump", .str "call"]) = H4 at s4 h4 ⊢
      refine ⟨_, _, rfl, .inr (SqT.of h4), rfl, rfl, _, rfl, ?_⟩
      show if inV (.str (nm FV 3)) [.str "jump", .str "call"] = true then _ else _
      rw [(fv_at 3 (by decide)).2.2.2.1]
      have h1' := SqT.of (K := K) (s4 _ _ (s3 _ _ (s2 _ _ h1)))
      have sA := Same.trans s1 (Same.trans s2 (Same.trans s3 s4))
      refine iteF ⟨line5 (by simp), fun l5 hl5 => ?_⟩
      have s5 : Same H4 (upd H4 l5 (.lst [.str "plus", .str "set", .str "high", .str "load", .str "store"])) := Same.add hl5
      have h5 : (upd H4 l5 (.lst [.str "plus", .str "set", .str "high", .str "load", .str "store"])) l5 = some (.lst [.str "plus", .str "set", .str "high", .str "load", .str "store"]) := upd_same
      generalize upd H4 l5 (.lst [.str "plus", .str "set", .str "high", .str "load", .str "store"]) = H5 at s5 h5 ⊢
      have h5 : H5 l5 = some (.lst (FV.map V.str)) := h5
      have h1'' := Same.tup s5 h1'
      refine ⟨.inl ⟨rfl, _, SqL.of h5⟩, _, rfl, _, _, _, _, _, rfl, rfl, SqL.of h5, rfl, flat_strs _, (ixs (fv_at 3 (by decide)).1).1, (ixs (fv_at 3 (by decide)).1).2.1, (ixs (fv_at 3 (by decide)).1).2.2, ?_⟩
      refine ⟨_, _, rfl, rfl, _, _, rfl, rfl, .inl ⟨by decide, by decide⟩, _, rfl, _, _, _, _, rfl, rfl, h1'', at0, _, _, rfl, rfl, .inl ⟨by omega, by omega⟩, _, _, rfl, rfl, ?_⟩
      refine ⟨_, rfl, line5 (by simp), fun p6 hp6 => ?_⟩
      have s6 : Same H5 (upd H5 p6 (.tup [.str "set", .str "high"])) := Same.add hp6
      have h6 : (upd H5 p6 (.tup [.str "set", .str "high"])) p6 = some (.tup [.str "set", .str "high"]) := upd_same
      generalize upd H5 p6 (.tup [.str "set", .str "high"]) = H6 at s6 h6 ⊢
      refine ⟨_, _, rfl, .inr (SqT.of h6), rfl, rfl, _, rfl, ?_⟩
      have h1s := Same.tup s6 h1''
      show if inV (.str (nm FV 3)) [.str "set", .str "high"] = true then _ else _
      rw [(fv_at 3 (by decide)).2.2.2.2]
      refine iteF ⟨_, rfl, _, rfl, _, _, _, _, rfl, rfl, h1s, (atT _ _ _).2.1, _, _, rfl, rfl, .inl ⟨by omega, by omega⟩, _, _, rfl, rfl, _, rfl, _, _, _, _, rfl, rfl, h1s, (atT _ _ _).1, _, _, rfl, rfl, (show (64 : Int) ≠ 0 by decide), _, _, rfl, rfl, line5 (by simp), ?_⟩
      refine fin _ _ H6 (Same.trans sA (Same.trans s5 s6)) rfl ?_
      show (((3 : Nat) : Int) + 2) * 4096 + x * 512 + y * 64 + n.fmod 64 = 20480 + x * 512 + y * 64 + n
      rw [Int.fmod_eq_emod_of_nonneg _ (by decide)]
      omega
    | store x y n =>
      have hS : SqT K H a [.str (nm FV 4), .int x, .int y, .int n] := hS
      have hx : 0 ≤ x ∧ x ≤ 7 := hok.1
      have hy : 0 ≤ y ∧ y ≤ 7 := hok.2.1
      have hn := hok.2.2
      refine ⟨_, rfl, _, _, _, _, rfl, rfl, hS, at0, _, rfl, _, rfl, a, _, rfl, hS, fun w => absurd w (not_whole_tail _ _), fun _ b hb => ⟨_, _, rfl, ?_⟩⟩
      have s1 : Same H (upd H b (.tup (cutV (.str (nm FV 4) :: [.int x, .int y, .int n]) (some 1) none))) := Same.add hb
      have h1 : (upd H b (.tup (cutV (.str (nm FV 4) :: [.int x, .int y, .int n]) (some 1) none))) b = some (.tup ([.int x, .int y, .int n])) := upd_same.trans (congrArg (fun l => some (HO.tup l)) (cut_tail _ _))
      generalize upd H b (.tup (cutV (.str (nm FV 4) :: [.int x, .int y, .int n]) (some 1) none)) = H1 at s1 h1 ⊢
      refine ⟨_, rfl, rfl, fun l1 H2 _ s2 h2 => ⟨_, _, rfl, .inl (SqL.of h2), rfl, flat_strs SG, _, rfl, ?_⟩⟩
      show if inV (.str (nm FV 4)) (SG.map V.str) = true then _ else _
      rw [inV_strs, (fv_at 4 (by decide)).2.1]
      refine iteF ⟨_, rfl, rfl, fun l2 H3 _ s3 h3 => ⟨_, _, rfl, .inl (SqL.of h3), rfl, flat_strs SM, _, rfl, ?_⟩⟩
      show if inV (.str (nm FV 4)) (SM.map V.str) = true then _ else _
      rw [inV_strs, (fv_at 4 (by decide)).2.2.1]
      refine iteF ⟨_, rfl, line5 (by simp), fun p3 hp3 => ?_⟩
      have s4 : Same H3 (upd H3 p3 (.tup [.str "jump", .str "call"])) := Same.add hp3
      have h4 : (upd H3 p3 (.tup [.str "jump", .str "call"])) p3 = some (.tup [.str "jump", .str "call"]) := upd_same
      generalize upd H3 p3 (.tup [.str "jump", .str "call"]) = H4 at s4 h4 ⊢
      refine ⟨_, _, rfl, .inr (SqT.of h4), rfl, rfl, _, rfl, ?_⟩
      show if inV (.str (nm FV 4)) [.str "jump", .str "call"] = true then _ else _
      rw [(fv_at 4 (by decide)).2.2.2.1]
      have h1' := SqT.of (K := K) (s4 _ _ (s3 _ _ (s2 _ _ h1)))
      have sA := Same.trans s1 (Same.trans s2 (Same.trans s3 s4))
      refine iteF ⟨line5 (by simp), fun l5 hl5 => ?_⟩
      have s5 : Same H4 (upd H4 l5 (.lst [.str "plus", .str "set", .str "high", .str "load", .str "store"])) := Same.add hl5
      have h5 : (upd H4 l5 (.lst [.str "plus", .str "set", .str "high", .str "load", .str "store"])) l5 = some (.lst [.str "plus", .str "set", .str "high", .str "load", .str "store"]) := upd_same
      generalize upd H4 l5 (.lst [.str "plus", .str "set", .str "high", .str "load", .str "store"]) = H5 at s5 h5 ⊢
      have h5 : H5 l5 = some (.lst (FV.map V.str)) := h5
      have h1'' := Same.tup s5 h1'
      refine ⟨.inl ⟨rfl, _, SqL.of h5⟩, _, rfl, _, _, _, _, _, rfl, rfl, SqL.of h5, rfl, flat_strs _, (ixs (fv_at 4 (by decide)).1).1, (ixs (fv_at 4 (by decide)).1).2.1, (ixs (fv_at 4 (by decide)).1).2.2, ?_⟩
      refine ⟨_, _, rfl, rfl, _, _, rfl, rfl, .inl ⟨by decide, by decide⟩, _, rfl, _, _, _, _, rfl, rfl, h1'', at0, _, _, rfl, rfl, .inl ⟨by omega, by omega⟩, _, _, rfl, rfl, ?_⟩
      refine ⟨_, rfl, line5 (by simp), fun p6 hp6 => ?_⟩
      have s6 : Same H5 (upd H5 p6 (.tup [.str "set", .str "high"])) := Same.add hp6
      have h6 : (upd H5 p6 (.tup [.str "set", .str "high"])) p6 = some (.tup [.str "set", .str "high"]) := upd_same
      generalize upd H5 p6 (.tup [.str "set", .str "high"]) = H6 at s6 h6 ⊢
      refine ⟨_, _, rfl, .inr (SqT.of h6), rfl, rfl, _, rfl, ?_⟩
      have h1s := Same.tup s6 h1''
      show if inV (.str (nm FV 4)) [.str "set", .str "high"] = true then _ else _
      rw [(fv_at 4 (by decide)).2.2.2.2]
      refine iteF ⟨_, rfl, _, rfl, _, _, _, _, rfl, rfl, h1s, (atT _ _ _).2.1, _, _, rfl, rfl, .inl ⟨by omega, by omega⟩, _, _, rfl, rfl, _, rfl, _, _, _, _, rfl, rfl, h1s, (atT _ _ _).1, _, _, rfl, rfl, (show (64 : Int) ≠ 0 by decide), _, _, rfl, rfl, line5 (by simp), ?_⟩
      refine fin _ _ H6 (Same.trans sA (Same.trans s5 s6)) rfl ?_
      show (((4 : Nat) : Int) + 2) * 4096 + x * 512 + y * 64 + n.fmod 64 = 24576 + x * 512 + y * 64 + n
      rw [Int.fmod_eq_emod_of_nonneg _ (by decide)]
      omega
    | jump k g far =>
      obtain ⟨hk, hg0, hg1⟩ := hok
      have hS : SqT K H a [.str "jump", .str (nm TM k), .int g, .bl far] := hS
      refine ⟨_, rfl, _, _, _, _, rfl, rfl, hS, at0, _, rfl, _, rfl, a, _, rfl, hS, fun w => absurd w (not_whole_tail _ _), fun _ b hb => ⟨_, _, rfl, ?_⟩⟩
      have s1 : Same H (upd H b (.tup (cutV (.str "jump" :: [.str (nm TM k), .int g, .bl far]) (some 1) none))) := Same.add hb
      have h1 : (upd H b (.tup (cutV (.str "jump" :: [.str (nm TM k), .int g, .bl far]) (some 1) none))) b = some (.tup ([.str (nm TM k), .int g, .bl far])) := upd_same.trans (congrArg (fun l => some (HO.tup l)) (cut_tail _ _))
      generalize upd H b (.tup (cutV (.str "jump" :: [.str (nm TM k), .int g, .bl far]) (some 1) none)) = H1 at s1 h1 ⊢
      refine ⟨_, rfl, rfl, fun l1 H2 _ s2 h2 => ⟨_, _, rfl, .inl (SqL.of h2), rfl, flat_strs SG, _, rfl, ?_⟩⟩
      show if inV (.str ("jump")) (SG.map V.str) = true then _ else _
      rw [inV_strs, jc_in.1]
      refine iteF ⟨_, rfl, rfl, fun l2 H3 _ s3 h3 => ⟨_, _, rfl, .inl (SqL.of h3), rfl, flat_strs SM, _, rfl, ?_⟩⟩
      show if inV (.str ("jump")) (SM.map V.str) = true then _ else _
      rw [inV_strs, jc_in.2.1]
      refine iteF ⟨_, rfl, line5 (by simp), fun p3 hp3 => ?_⟩
      have s4 : Same H3 (upd H3 p3 (.tup [.str "jump", .str "call"])) := Same.add hp3
      have h4 : (upd H3 p3 (.tup [.str "jump", .str "call"])) p3 = some (.tup [.str "jump", .str "call"]) := upd_same
      generalize upd H3 p3 (.tup [.str "jump", .str "call"]) = H4 at s4 h4 ⊢
      refine ⟨_, _, rfl, .inr (SqT.of h4), rfl, rfl, _, rfl, ?_⟩
      show if inV (.str ("jump")) [.str "jump", .str "call"] = true then _ else _
      rw [jc_in.2.2.2.2.1]
      have h1' := SqT.of (K := K) (s4 _ _ (s3 _ _ (s2 _ _ h1)))
      have sA := Same.trans s1 (Same.trans s2 (Same.trans s3 s4))
      refine iteT ⟨_, rfl, rfl, _, rfl, iteT ⟨rfl, fun l3 H5 _ s5 h5 => ⟨.inl ⟨rfl, _, SqL.of h5⟩, _, rfl, _, _, _, _, rfl, rfl, Same.tup s5 h1', (atT _ _ _).2.2, _, _, _, _, _, rfl, rfl, SqL.of h5, rfl, flat_strs _, (ixs (tm_at k hk)).1, (ixs (tm_at k hk)).2.1, (ixs (tm_at k hk)).2.2, ?_⟩⟩⟩
      refine ⟨_, _, rfl, rfl, .inl ⟨by omega, by omega⟩, line5 (by simp), fun l6 hl6 => ?_⟩
      have s6 : Same H5 (upd H5 l6 (.lst [.int 28672, .int 32768, .int 36864, .int 40960])) := Same.add hl6
      have h6 : (upd H5 l6 (.lst [.int 28672, .int 32768, .int 36864, .int 40960])) l6 = some (.lst [.int 28672, .int 32768, .int 36864, .int 40960]) := upd_same
      generalize upd H5 l6 (.lst [.int 28672, .int 32768, .int 36864, .int 40960]) = H6 at s6 h6 ⊢
      have sB := Same.trans sA (Same.trans s5 s6)
      have hS6 := Same.tup sB hS
      have m1 : atI [V.str "jump", .str (nm TM k), .int g, .bl far] (-1) = some (.bl far) := rfl
      have m2 : atI [V.str "jump", .str (nm TM k), .int g, .bl far] (-2) = some (.int g) := rfl
      refine ⟨_, rfl, rfl, .inr ⟨_, rfl, _, _, rfl, rfl, .inl ⟨by decide, by decide⟩, _, rfl, _, rfl, _, _, _, _, rfl, rfl, hS6, m1, .inr ⟨_, rfl, _, _, rfl, rfl, ?_⟩⟩⟩
      cases far with
      | true =>
        have af : atI [V.int 28672, .int 32768, .int 36864, .int 40960] (2 * b2i (decide (V.str "jump" = V.str "call")) + b2i true) = some (.int 32768) := by decide +kernel
        refine ⟨_, _, _, _, rfl, rfl, SqL.of h6, af, _, rfl, _, rfl, _, _, _, _, rfl, rfl, hS6, m1, _, rfl, iteT ⟨_, rfl, _, rfl, _, _, rfl, rfl, _, rfl, _, rfl, _, _, _, _, rfl, rfl, hS6, m2, line5 (by simp), ?_⟩⟩
        exact fun q' hq => q q' _ (Same.trans sB (Same.add hq)) (by rw [upd_same]; rfl)
      | false =>
        have af : atI [V.int 28672, .int 32768, .int 36864, .int 40960] (2 * b2i (decide (V.str "jump" = V.str "call")) + b2i false) = some (.int 28672) := by decide +kernel
        refine ⟨_, _, _, _, rfl, rfl, SqL.of h6, af, _, rfl, _, rfl, _, _, _, _, rfl, rfl, hS6, m1, _, rfl, iteF ⟨_, rfl, _, rfl, _, _, rfl, rfl, _, rfl, _, rfl, _, _, _, _, rfl, rfl, hS6, m2, _, rfl, _, _, rfl, rfl, _, _, rfl, rfl, _, _, rfl, rfl, (show (32 : Int) ≠ 0 by decide), _, _, rfl, rfl, line5 (by simp), ?_⟩⟩
        refine fin _ _ H6 sB rfl ?_
        show 28672 + (k : Int) * 512 + (g - p - 1).fmod 32 = 28672 + k * 512 + (g - p - 1) % 32
        rw [Int.fmod_eq_emod_of_nonneg _ (by decide)]
    | call g far =>
      have hS : SqT K H a [.str "call", .int g, .bl far] := hS
      refine ⟨_, rfl, _, _, _, _, rfl, rfl, hS, at0, _, rfl, _, rfl, a, _, rfl, hS, fun w => absurd w (not_whole_tail _ _), fun _ b hb => ⟨_, _, rfl, ?_⟩⟩
      have s1 : Same H (upd H b (.tup (cutV (.str "call" :: [.int g, .bl far]) (some 1) none))) := Same.add hb
      have h1 : (upd H b (.tup (cutV (.str "call" :: [.int g, .bl far]) (some 1) none))) b = some (.tup ([.int g, .bl far])) := upd_same.trans (congrArg (fun l => some (HO.tup l)) (cut_tail _ _))
      generalize upd H b (.tup (cutV (.str "call" :: [.int g, .bl far]) (some 1) none)) = H1 at s1 h1 ⊢
      refine ⟨_, rfl, rfl, fun l1 H2 _ s2 h2 => ⟨_, _, rfl, .inl (SqL.of h2), rfl, flat_strs SG, _, rfl, ?_⟩⟩
      show if inV (.str ("call")) (SG.map V.str) = true then _ else _
      rw [inV_strs, jc_in.2.2.1]
      refine iteF ⟨_, rfl, rfl, fun l2 H3 _ s3 h3 => ⟨_, _, rfl, .inl (SqL.of h3), rfl, flat_strs SM, _, rfl, ?_⟩⟩
      show if inV (.str ("call")) (SM.map V.str) = true then _ else _
      rw [inV_strs, jc_in.2.2.2.1]
      refine iteF ⟨_, rfl, line5 (by simp), fun p3 hp3 => ?_⟩
      have s4 : Same H3 (upd H3 p3 (.tup [.str "jump", .str "call"])) := Same.add hp3
      have h4 : (upd H3 p3 (.tup [.str "jump", .str "call"])) p3 = some (.tup [.str "jump", .str "call"]) := upd_same
      generalize upd H3 p3 (.tup [.str "jump", .str "call"]) = H4 at s4 h4 ⊢
      refine ⟨_, _, rfl, .inr (SqT.of h4), rfl, rfl, _, rfl, ?_⟩
      show if inV (.str ("call")) [.str "jump", .str "call"] = true then _ else _
      rw [jc_in.2.2.2.2.2]
      have sA := Same.trans s1 (Same.trans s2 (Same.trans s3 s4))
      have dn : decide (V.str "call" = V.str "jump") = false := by decide +kernel
      refine iteT ⟨_, rfl, rfl, _, rfl, ?_⟩
      rw [dn]
      refine iteF ⟨line5 (by simp), fun l6 hl6 => ?_⟩
      have s6 : Same H4 (upd H4 l6 (.lst [.int 28672, .int 32768, .int 36864, .int 40960])) := Same.add hl6
      have h6 : (upd H4 l6 (.lst [.int 28672, .int 32768, .int 36864, .int 40960])) l6 = some (.lst [.int 28672, .int 32768, .int 36864, .int 40960]) := upd_same
      generalize upd H4 l6 (.lst [.int 28672, .int 32768, .int 36864, .int 40960]) = H6 at s6 h6 ⊢
      have sB := Same.trans sA s6
      have hS6 := Same.tup sB hS
      have m1 : atI [V.str "call", .int g, .bl far] (-1) = some (.bl far) := rfl
      have m2 : atI [V.str "call", .int g, .bl far] (-2) = some (.int g) := rfl
      refine ⟨_, rfl, rfl, .inr ⟨_, rfl, _, _, rfl, rfl, .inl ⟨by decide, by decide⟩, _, rfl, _, rfl, _, _, _, _, rfl, rfl, hS6, m1, .inr ⟨_, rfl, _, _, rfl, rfl, ?_⟩⟩⟩
      cases far with
      | true =>
        have af : atI [V.int 28672, .int 32768, .int 36864, .int 40960] (2 * b2i (decide (V.str "call" = V.str "call")) + b2i true) = some (.int 40960) := by decide +kernel
        refine ⟨_, _, _, _, rfl, rfl, SqL.of h6, af, _, rfl, _, rfl, _, _, _, _, rfl, rfl, hS6, m1, _, rfl, iteT ⟨_, rfl, _, rfl, _, _, rfl, rfl, _, rfl, _, rfl, _, _, _, _, rfl, rfl, hS6, m2, line5 (by simp), ?_⟩⟩
        exact fun q' hq => q q' _ (Same.trans sB (Same.add hq)) (by rw [upd_same]; rfl)
      | false =>
        have af : atI [V.int 28672, .int 32768, .int 36864, .int 40960] (2 * b2i (decide (V.str "call" = V.str "call")) + b2i false) = some (.int 36864) := by decide +kernel
        refine ⟨_, _, _, _, rfl, rfl, SqL.of h6, af, _, rfl, _, rfl, _, _, _, _, rfl, rfl, hS6, m1, _, rfl, iteF ⟨_, rfl, _, rfl, _, _, rfl, rfl, _, rfl, _, rfl, _, _, _, _, rfl, rfl, hS6, m2, _, rfl, _, _, rfl, rfl, _, _, rfl, rfl, _, _, rfl, rfl, (show (32 : Int) ≠ 0 by decide), _, _, rfl, rfl, line5 (by simp), ?_⟩⟩
        refine fin _ _ H6 sB rfl ?_
        show 36864 + 0 + (g - p - 1).fmod 32 = 36864 + (g - p - 1) % 32
        rw [Int.fmod_eq_emod_of_nonneg _ (by decide)]
        omega
end
end Bm
set_option maxHeartbeats 800000
namespace Bm
open PySem PySem.Spec PyProof.Rows L2
def De.regs : De → List Int
  | .sgl _ => []
  | .reg _ a => [a]
  | .sum _ d a b => [d, a, b]
  | .plus d a _ => [d, a]
  | .set d _ => [d]
  | .high d _ => [d]
  | .load d a _ => [d, a]
  | .store d a _ => [d, a]
  | .jump _ _ _ => []
  | .call _ _ => []
def De.nums : De → List Int
  | .plus _ _ n => [n]
  | .set _ n => [n]
  | .high _ n => [n]
  | .load _ _ n => [n]
  | .store _ _ n => [n]
  | _ => []
theorem parts_split (d : De) : d.parts = d.regs.map (true, ·) ++ d.nums.map (false, ·) := by cases d <;> rfl
theorem nums_le (d : De) : d.nums.length ≤ 1 := by cases d <;> simp [De.nums]
def fiveN : List Str := ["plus", "set", "high", "load", "store"]
theorem five_not : ∀ k, k < 8 → nm SG k ∉ fiveN ∧ nm SM k ∉ fiveN := by decide +kernel
theorem five_in : (("plus" : Str) ∈ fiveN ∧ ("set" : Str) ∈ fiveN ∧ ("high" : Str) ∈ fiveN) ∧ ("load" : Str) ∈ fiveN ∧ ("store" : Str) ∈ fiveN := by decide +kernel
theorem num_in {d : De} (h : d.ok) (hg : d.goal = none) : d.name ∈ fiveN ↔ d.nums ≠ [] := by
  cases d with
  | sgl k => exact ⟨fun z => absurd z (five_not k (Nat.lt_of_lt_of_le (show k < 3 from h) (by decide))).1, fun z => absurd rfl z⟩
  | reg k a => exact ⟨fun z => absurd z (five_not k (Nat.lt_of_lt_of_le h.2.1 (by decide))).1, fun z => absurd rfl z⟩
  | sum k d a b => exact ⟨fun z => absurd z (five_not k h.1).2, fun z => absurd rfl z⟩
  | plus d a n => exact ⟨fun _ => List.cons_ne_nil _ _, fun _ => five_in.1.1⟩
  | set d n => exact ⟨fun _ => List.cons_ne_nil _ _, fun _ => five_in.1.2.1⟩
  | high d n => exact ⟨fun _ => List.cons_ne_nil _ _, fun _ => five_in.1.2.2⟩
  | load d a n => exact ⟨fun _ => List.cons_ne_nil _ _, fun _ => five_in.2.1⟩
  | store d a n => exact ⟨fun _ => List.cons_ne_nil _ _, fun _ => five_in.2.2⟩
  | jump k g f => cases hg
  | call g f => cases hg
theorem near_far (b : Bool) : ((if b = true then ".far" else ".near" : Str).length ≤ 10) ∧ ("jump" : Str) ++ (if b = true then ".far" else ".near" : Str) = "jump." ++ farT b ∧ ("call" : Str) ++ (if b = true then ".far" else ".near" : Str) = "call." ++ farT b := by cases b <;> decide +kernel
theorem name_jc {d : De} (h : d.ok) (hg : d.goal = none) : inV (.str d.name) [.str "jump", .str "call"] = false := by
  have go : ∀ z : Str, z ≠ "jump" → z ≠ "call" → inV (.str z) [.str "jump", .str "call"] = false := fun z h1 h2 => by
    have e : ([.str "jump", .str "call"] : List V) = (["jump", "call"] : List Str).map V.str := rfl
    rw [e, inV_strs]
    simp only [List.any_cons, List.any_nil, Bool.or_false, Bool.or_eq_false_iff, beq_eq_false_iff_ne]
    exact ⟨fun z => h1 z.symm, fun z => h2 z.symm⟩
  cases d with
  | sgl k =>
    have := (sgn_not k (Nat.lt_of_lt_of_le (show k < 3 from h) (by decide))).1
    exact go _ this.1 this.2
  | jump k g f => cases hg
  | call g f => cases hg
  | _ =>
    have := name_not h hg (List.cons_ne_nil _ _)
    exact go _ this.1 this.2
theorem inV_five (z : Str) : inV (.str z) (fiveN.map V.str) = decide (z ∈ fiveN) := by
  rw [inV_strs, Bool.eq_iff_iff]
  simp only [List.any_eq_true, decide_eq_true_eq]
  constructor
  · rintro ⟨x, h1, h2⟩
    rw [← beq_iff_eq.mp h2]
    exact h1
  · exact fun h => ⟨z, h, beq_self_eq_true _⟩
theorem cut_upK {xs : List V} {k : Nat} (h : k ≤ xs.length) : cutV xs none (some (k : Int)) = xs.take k := by
  unfold cutV
  rw [HT.sIx_nat, HT.sIx_none, Nat.min_eq_left h]
  rfl
theorem dp_strs {K : PySem.W.Frag} {H : Hp} : ∀ l : List Str, DpAll K H (l.map V.str) (l.map PyData.str)
  | [] => .nil
  | x :: l => .cons (.str x) (dp_strs l)
theorem strs_all : ∀ l : List Str, (∀ x ∈ l, Cl x) → PyData.canLayAll0 (l.map PyData.str) = true ∧ PyData.depthAll (l.map PyData.str) ≤ 1
  | [], _ => by simp [PyData.canLayAll0, PyData.depthAll]
  | x :: l, h => by
    obtain ⟨h1, h2⟩ := strs_all l fun y hy => h y (List.mem_cons_of_mem _ hy)
    have h3 := (h x (List.mem_cons_self ..)).ok
    simp only [List.map_cons, PyData.canLayAll0, PyData.depthAll, h1, PyData.canLay0, h3, PyData.depth]
    exact ⟨rfl, Nat.max_le.mpr ⟨by omega, h2⟩⟩
theorem strs_shaped {l : List Str} (h : ∀ x ∈ l, Cl x) : SeqAt.shaped (.list (l.map PyData.str)) = true := by
  obtain ⟨h1, h2⟩ := strs_all l h
  unfold SeqAt.shaped
  simp only [PyData.canLay0, PyData.depth, h1, Bool.true_and]
  exact decide_eq_true (by omega)
theorem lists_nil (l : List Str) : (PyData.list (l.map PyData.str)).eqv (.list []) = decide (l = []) := by
  cases l <;> simp [PyData.eqv, PyData.eqvAll]
theorem cl_part (p : Bool × Int) : Cl (partT p) := by
  unfold partT
  split
  · exact (cl_lit "r" (by decide +kernel)).app (cl_int _)
  · exact cl_int _
theorem parts_sum {d : De} (h : d.ok) : ((d.parts.map partT).map (·.length)).sum ≤ 15003 := by
  have hpl := parts_le d
  have : ∀ l : List (Bool × Int), (∀ p ∈ l, p.2.natAbs ≤ 100000) → ((l.map partT).map (·.length)).sum ≤ l.length * 5001 := fun l => by
    induction l with
    | nil => intro _; simp
    | cons p l ih =>
      intro h
      have h1 := partT_len (h p (List.mem_cons_self ..))
      have h2 := ih fun p hp => h p (List.mem_cons_of_mem _ hp)
      simp only [List.map_cons, List.sum_cons, List.length_cons, Nat.succ_mul]
      omega
  have h := this d.parts (parts_small h)
  have : d.parts.length * 5001 ≤ 3 * 5001 := Nat.mul_le_mul_right _ hpl
  omega
theorem parts_len {d : De} (h : d.ok) : (Txt.join ", " (d.parts.map partT)).length ≤ 20000 := by
  have hpl := parts_le d
  obtain ⟨_, _, c3, _, c5⟩ := row_lens
  have sum := parts_sum h
  have := join_len (", ") (d.parts.map partT)
  rw [List.length_map, c3] at this
  omega
theorem rep_le (b : Bool) : (repS (" " : Str) (if (!b) = true then 1 else 0 : Int).toNat).length ≤ 1 := by
  rw [← sg_len]
  unfold repS
  rw [sg_mk, flat_len, sg_len, row_lens.2.2.2.2]
  cases b <;> simp
theorem joinL {c : Bool} {A B : Prop} {Z G : Addr → Hp → Prop} (tail : ∀ D H, G D H → Z D H) (h : (∀ D H, G D H → Z D H) → if c = true then A else B) : if c = true then A else B := h tail
section
variable {P : Program} {w : World} {K : PySem.W.Frag} {mg : Str → Option Value} {base : Heap} {f : Addr} {fd : FuncData} {dvs : List V}
abbrev N__law_row_of : List Str := ["_law_deed_here", "_law_word", "_law_rest", "_law_row", "_law_numbers", "_law_parts", "_law_one"]
theorem sc__law_row_of : FnScope ["_law_deed_here", "_law_word", "_law_rest", "_law_row", "_law_numbers", "_law_parts", "_law_one"] ["_law_deed_here"] (defScope s__law_row_of) := ⟨rfl, rfl, rfl, by decide +kernel, rfl, by decide +kernel, by decide +kernel⟩
theorem ok_lrow (F : FunD K "_law_row_of" "_law_row_of" (defArgs s__law_row_of) (defBody s__law_row_of) (defScope s__law_row_of) dvs [] f fd) (g_len : mg "len" = none) (g_int : mg "int" = none) (g_str : mg "str" = none) : FnOk P w K mg base CX0 1 f fd ["_law_deed_here"] (spRowT K) := by
  refine F.ok sc__law_row_of (fun vs H Q E h => ?_) (fun cdv A outer s H vs Q E hr h => ?_)
  · obtain ⟨a, d, rfl, _⟩ := h
    rfl
  · obtain ⟨a, d, rfl, hS, hok, hgo, q⟩ := h
    refine ⟨_, PSs.nox (pss_cons (ps_par (i := 1) (j := 2) rfl sc__law_row_of.nd rfl rfl (by decide) rfl rfl (pa_cons (pe_ix ix_tup (pv 0) pe_int (fun _ _ => rfl)) (pa_cons (pe_slice sl_tupA (pv 0) (po_some pe_int) po_none) pa_nil)) rfl)
      (pss_cons (ps_if (pt_cmpR op_in_seq (pv 1) (pe_tup (pa_cons pe_str (pa_cons pe_str pa_nil))) rfl) (pss_cons (ps_set (i := 3) sc__law_row_of.nd rfl (Or.inl rfl) (pe_op op_add_str (pe_op op_add_str (pe_op op_add_str (pv 1) (pe_ix ix_list (pe_lst (pa_cons pe_str (pa_cons pe_str pa_nil))) (pe_callTy call_int1 rfl g_int (by decide +kernel) (pa_cons (pe_ix ix_tup (pv 0) (pe_un un_neg pe_int) (fun _ _ => rfl)) pa_nil)) (fun _ _ => rfl))) pe_str) (pe_callTy call_str_int rfl g_str (by decide +kernel) (pa_cons (pe_ix ix_tup (pv 0) (pe_un un_neg pe_int) (fun _ _ => rfl)) pa_nil))))
      (pss_one (ps_ret (pe_op op_add_str (pv 3) (pe_ifExp (pt_cmpR op_eq (pv 1) pe_str (nomark _)) (pe_op op_add_str pe_str (pe_ix ix_tup (pv 2) pe_int (fun _ _ => rfl))) pe_str))))) pss_nil)
      (pss_cons (ps_set (i := 4) sc__law_row_of.nd rfl (Or.inl rfl) (pe_ifExp (pt_cmpR op_in_seq (pv 1) (pe_tup (pa_cons pe_str (pa_cons pe_str (pa_cons pe_str (pa_cons pe_str (pa_cons pe_str pa_nil)))))) rfl) (pe_lst (pa_cons (pe_callTy call_str_int rfl g_str (by decide +kernel) (pa_cons (pe_ix ix_tup (pv 2) (pe_un un_neg pe_int) (fun _ _ => rfl)) pa_nil)) pa_nil)) (pe_lst pa_nil)))
      (pss_cons (ps_set (i := 5) sc__law_row_of.nd rfl (Or.inl rfl) (pe_op op_cat (pe_lc (own := [("_law_one", 6)]) (g := gName 6) rfl sc__law_row_of.nd (pi_tup (pe_slice sl_tupA (pv 2) po_none (po_some (pe_op op_sub (pe_callB call_len rfl g_len boot_len (pa_cons (pv 2) pa_nil)) (pe_callB call_len rfl g_len boot_len (pa_cons (pv 4) pa_nil)))))) (blkOk_by (own := [("_law_one", 6)]) (N := N__law_row_of) (sc := defScope s__law_row_of) (by decide +kernel)) (fun _ _ _ _ _ => (pg_name (i := 6) sc__law_row_of.nd rfl (Or.inl rfl))) (fun _ _ _ _ _ => pts_nil) (fun _ _ _ _ _ => (pe_op op_add_str pe_str (pe_callTy call_str_int rfl g_str (by decide +kernel) (pa_cons (pv 6) pa_nil))))) (pv 4)))
      (pss_one (ps_ret (pe_op op_add_str (pe_op op_add_str (pv 1) (pe_op op_repS pe_str (pe_callTy call_int1 rfl g_int (by decide +kernel) (pa_cons (pe_cmpR (op_neD hr.units) (pv 5) (pe_lst pa_nil) (nomark _)) pa_nil)))) (pe_bm PySem.F.plainAttrs_str PySem.F.slot_str_join PySem.F.type_str_join mt_join pe_str (pa_cons (pv 5) pa_nil))))))))), ?_⟩
    cases hg : d.goal with
    | some g =>
      have gl := intT_len (hgo g hg)
      have gl' : (PySem.Str.ofString (toString g)).length ≤ 5000 := gl
      have gz := log_of (hgo g hg)
      have z0 : Str.empty.length = 0 := rfl
      obtain ⟨c1, c2, c3, c4, c5⟩ := row_lens
      have cj := nm_lens.2.2.2.2.2.1
      have cc := nm_lens.2.2.2.2.2.2
      have ce : ("" : Str).length = 0 := by decide +kernel
      cases d with
      | jump k g' far =>
        cases hg
        have hv : (De.jump k g far).vals = [.str "jump", .str (nm TM k), .int g, .bl far] := rfl
        rw [hv] at hS
        refine ⟨_, rfl, a, _, _, _, rfl, rfl, hS, at0, _, rfl, _, rfl, ?_⟩
        unfold tNoPart
        refine rsl hS fun b H1 s1 hb => ?_
        rw [cut_tail] at hb
        refine ⟨_, _, rfl, _, rfl, line5 (by simp), fun p3 hp3 => ?_⟩
        have s2 : Same H1 (upd H1 p3 (.tup [.str "jump", .str "call"])) := Same.add hp3
        have h2 : (upd H1 p3 (.tup [.str "jump", .str "call"])) p3 = some (.tup [.str "jump", .str "call"]) := upd_same
        generalize upd H1 p3 (.tup [.str "jump", .str "call"]) = H2 at s2 h2 ⊢
        have sA := Same.trans s1 s2
        refine ⟨_, _, rfl, .inr (SqT.of h2), rfl, rfl, _, rfl, ?_⟩
        show if inV (.str "jump") [.str "jump", .str "call"] = true then _ else _
        rw [jc_in.2.2.2.2.1]
        refine iteT ⟨_, rfl, line5 (by simp), fun p4 hp4 => ?_⟩
        have s3 : Same H2 (upd H2 p4 (.lst [.str ".near", .str ".far"])) := Same.add hp4
        have h3 : (upd H2 p4 (.lst [.str ".near", .str ".far"])) p4 = some (.lst [.str ".near", .str ".far"]) := upd_same
        generalize upd H2 p4 (.lst [.str ".near", .str ".far"]) = H3 at s3 h3 ⊢
        have sB := Same.trans sA s3
        refine ⟨_, rfl, _, rfl, a, _, _, _, rfl, rfl, Same.tup sB hS, rfl, .inr ⟨far, rfl, ?_⟩⟩
        refine ⟨_, _, _, .str (if far = true then ".far" else ".near"), rfl, rfl, SqL.of h3, by cases far <;> rfl, ?_⟩
        have kt := (nm_short k (Nat.lt_of_lt_of_le hok.1 (by decide))).2.2
        obtain ⟨fl, fe, _⟩ := near_far far
        refine ⟨_, _, rfl, rfl, line5 (by omega), _, _, rfl, rfl, line5 (by simp only [sapp_len, c2]; omega), _, rfl, _, rfl, a, _, _, _, rfl, rfl, Same.tup sB hS, rfl, g, rfl, gz, _, _, rfl, rfl, line5 (by simp only [sapp_len, c2]; omega), ?_⟩
        refine ⟨_, rfl, _, rfl, rfl, _, rfl, ?_⟩
        refine iteT ⟨_, rfl, _, _, _, _, rfl, rfl, Same.tup (Same.trans s2 s3) hb, at0, _, _, rfl, rfl, line5 (by omega), ?_⟩
        refine ⟨_, _, rfl, rfl, line5 (by simp only [sapp_len, c2, c3]; omega), ?_⟩
        rw [fe]
        have := q H3 sB
        simp only [rowT, PySem.Str.append_assoc] at this ⊢
        exact this
      | call g' far =>
        cases hg
        have hv : (De.call g far).vals = [.str "call", .int g, .bl far] := rfl
        rw [hv] at hS
        refine ⟨_, rfl, a, _, _, _, rfl, rfl, hS, at0, _, rfl, _, rfl, ?_⟩
        unfold tNoPart
        refine rsl hS fun b H1 s1 hb => ?_
        rw [cut_tail] at hb
        refine ⟨_, _, rfl, _, rfl, line5 (by simp), fun p3 hp3 => ?_⟩
        have s2 : Same H1 (upd H1 p3 (.tup [.str "jump", .str "call"])) := Same.add hp3
        have h2 : (upd H1 p3 (.tup [.str "jump", .str "call"])) p3 = some (.tup [.str "jump", .str "call"]) := upd_same
        generalize upd H1 p3 (.tup [.str "jump", .str "call"]) = H2 at s2 h2 ⊢
        have sA := Same.trans s1 s2
        refine ⟨_, _, rfl, .inr (SqT.of h2), rfl, rfl, _, rfl, ?_⟩
        show if inV (.str "call") [.str "jump", .str "call"] = true then _ else _
        rw [jc_in.2.2.2.2.2]
        refine iteT ⟨_, rfl, line5 (by simp), fun p4 hp4 => ?_⟩
        have s3 : Same H2 (upd H2 p4 (.lst [.str ".near", .str ".far"])) := Same.add hp4
        have h3 : (upd H2 p4 (.lst [.str ".near", .str ".far"])) p4 = some (.lst [.str ".near", .str ".far"]) := upd_same
        generalize upd H2 p4 (.lst [.str ".near", .str ".far"]) = H3 at s3 h3 ⊢
        have sB := Same.trans sA s3
        refine ⟨_, rfl, _, rfl, a, _, _, _, rfl, rfl, Same.tup sB hS, rfl, .inr ⟨far, rfl, ?_⟩⟩
        refine ⟨_, _, _, .str (if far = true then ".far" else ".near"), rfl, rfl, SqL.of h3, by cases far <;> rfl, ?_⟩
        obtain ⟨fl, _, fe⟩ := near_far far
        refine ⟨_, _, rfl, rfl, line5 (by omega), _, _, rfl, rfl, line5 (by simp only [sapp_len, c2]; omega), _, rfl, _, rfl, a, _, _, _, rfl, rfl, Same.tup sB hS, rfl, g, rfl, gz, _, _, rfl, rfl, line5 (by simp only [sapp_len, c2]; omega), ?_⟩
        refine ⟨_, rfl, _, rfl, rfl, _, rfl, ?_⟩
        refine iteF ⟨_, _, rfl, rfl, line5 (by simp only [sapp_len, c2, ce]; omega), ?_⟩
        rw [fe]
        have := q H3 sB
        have e0 : ∀ x : Str, x ++ ("" : Str) = x := PySem.Str.append_empty
        rw [e0]
        exact this
      | _ => cases hg
    | none =>
      obtain ⟨_, _, c3, _, c5⟩ := row_lens
      have hv : d.vals = .str d.name :: d.parts.map (fun p => V.int p.2) := vals_parts hg
      have c6 : ("r" : Str).length = 1 := by decide +kernel
      rw [hv] at hS
      refine ⟨_, rfl, a, _, _, _, rfl, rfl, hS, at0, _, rfl, _, rfl, ?_⟩
      unfold tNoPart
      refine rsl hS fun b H1 s1 hb => ?_
      rw [cut_tail] at hb
      refine ⟨_, _, rfl, _, rfl, line5 (by simp), fun p3 hp3 => ?_⟩
      have s2 : Same H1 (upd H1 p3 (.tup [.str "jump", .str "call"])) := Same.add hp3
      have h2 : (upd H1 p3 (.tup [.str "jump", .str "call"])) p3 = some (.tup [.str "jump", .str "call"]) := upd_same
      generalize upd H1 p3 (.tup [.str "jump", .str "call"]) = H2 at s2 h2 ⊢
      have sA := Same.trans s1 s2
      refine ⟨_, _, rfl, .inr (SqT.of h2), rfl, rfl, _, rfl, ?_⟩
      show if inV (.str d.name) [.str "jump", .str "call"] = true then _ else _
      rw [name_jc hok hg]
      refine iteF ⟨_, rfl, line5 (by simp), fun p4 hp4 => ?_⟩
      have s3 : Same H2 (upd H2 p4 (.tup [.str "plus", .str "set", .str "high", .str "load", .str "store"])) := Same.add hp4
      have h3 : (upd H2 p4 (.tup [.str "plus", .str "set", .str "high", .str "load", .str "store"])) p4 = some (.tup [.str "plus", .str "set", .str "high", .str "load", .str "store"]) := upd_same
      generalize upd H2 p4 (.tup [.str "plus", .str "set", .str "high", .str "load", .str "store"]) = H3 at s3 h3 ⊢
      have h3 : H3 p4 = some (.tup (fiveN.map V.str)) := h3
      have sB := Same.trans sA s3
      refine ⟨_, _, rfl, .inr (SqT.of h3), rfl, flat_strs _, _, rfl, ?_⟩
      show if inV (.str d.name) (fiveN.map V.str) = true then _ else _
      have hb3 := Same.tup (Same.trans s2 s3) hb
      rw [inV_five]
      refine joinL (Z := ?Z) (G := fun D H4 => Same H3 H4 ∧ H4 D = some (.lst ((d.nums.map intT).map V.str))) ?tail fun tail => ?both
      case both =>
        by_cases hn : d.nums = []
        · rw [decide_eq_false fun z => (num_in hok hg).mp z hn]
          refine iteF ⟨line5 (by simp), fun D hD => ?_⟩
          have s4 : Same H3 (upd H3 D (.lst [])) := Same.add hD
          have h4 : (upd H3 D (.lst [])) D = some (.lst []) := upd_same
          generalize upd H3 D (.lst []) = H4 at s4 h4 ⊢
          exact tail D H4 ⟨s4, by rw [hn]; exact h4⟩
        · rw [decide_eq_true ((num_in hok hg).mpr hn)]
          obtain ⟨n, en⟩ : ∃ n, d.nums = [n] := by
            have := nums_le d
            match c : d.nums with
            | [] => exact absurd c hn
            | [n] => exact ⟨n, rfl⟩
            | _ :: _ :: _ => rw [c] at this; simp at this
          have hl : atI (d.parts.map (fun p => V.int p.2)) (-1) = some (.int n) := by
            rw [parts_split, en, List.map_append]
            exact atI_last _ _
          have hlg : n.natAbs.log2 < 1920 := log_of (parts_small hok (false, n) (by rw [parts_split, en]; simp))
          refine iteT ⟨_, rfl, _, rfl, _, _, _, _, rfl, rfl, hb3, hl, n, rfl, hlg, line5 (by simp), fun D hD => ?_⟩
          have s4 : Same H3 (upd H3 D (.lst [V.str (PySem.Str.ofString (toString n))])) := Same.add hD
          have h4 : (upd H3 D (.lst [V.str (PySem.Str.ofString (toString n))])) D = some (.lst [V.str (PySem.Str.ofString (toString n))]) := upd_same
          generalize upd H3 D (.lst [V.str (PySem.Str.ofString (toString n))]) = H4 at s4 h4 ⊢
          exact tail D H4 ⟨s4, by rw [en]; exact h4⟩
      case tail =>
        rintro D H4 ⟨s4, h4⟩
        have hb4 := Same.tup s4 hb3
        have hr4 : SqT K H4 b (d.regs.map V.int ++ d.nums.map V.int) := by
          have e : d.parts.map (fun p => V.int p.2) = d.regs.map V.int ++ d.nums.map V.int := by
            rw [parts_split, List.map_append, List.map_map, List.map_map]
            rfl
          rw [← e]
          exact hb4
        refine ⟨_, rfl, ?_⟩
        have hl2 : LenV K (.ref b) H4 (d.regs.length + d.nums.length) := .inr ⟨_, hr4, by rw [List.length_append, List.length_map, List.length_map]⟩
        have hl3 : LenV K (.ref D) H4 d.nums.length := .inl ⟨_, SqL.of h4, by rw [List.length_map, List.length_map]⟩
        refine ⟨_, rfl, _, _, rfl, hl2, _, rfl, _, _, rfl, hl3, _, _, rfl, rfl, _, rfl, ?_⟩
        rw [show (((d.regs.length + d.nums.length : Nat) : Int) - (d.nums.length : Nat)) = ((d.regs.length : Nat) : Int) by omega]
        refine rsl hr4 fun c H5 s5 hc => ?_
        rw [cut_upK (by rw [List.length_append, List.length_map]; omega), show d.regs.length = (d.regs.map V.int).length by rw [List.length_map], List.take_left] at hc
        refine ⟨c, rfl, ⟨_, hc⟩, fun B hB => ?_⟩
        have hrl : d.regs.length = (d.regs.map V.int).length := (List.length_map _).symm
        refine lc_it walk_tup (fun i G => Same H5 G ∧ G B = some (.lst (((d.regs.map fun r => partT (true, r)).take i).map V.str))) ⟨Same.add hB, upd_same⟩ (fun i G _ g => Same.tup g.1 hc) ?_ ?_
        · rintro i v G G' hi ⟨g1, g2⟩ ⟨rfl, hv⟩
          rw [List.getElem?_map] at hv
          obtain ⟨r, er, rfl⟩ := Option.map_eq_some_iff.mp hv
          have hrs : r.natAbs ≤ 100000 := parts_small hok (true, r) (by rw [parts_split, List.mem_append]; exact .inl (List.mem_map.mpr ⟨r, List.mem_of_getElem? er, rfl⟩))
          have il := intT_len hrs
          have il' : (PySem.Str.ofString (toString r)).length ≤ 5000 := il
          have hri : i < d.regs.length := by rw [hrl]; exact hi
          have hr3 : d.regs.length ≤ 3 := by
            have := parts_le d
            rw [parts_split, List.length_append, List.length_map] at this
            omega
          refine ⟨rfl, _, rfl, r, rfl, log_of hrs, _, _, rfl, rfl, line5 (by rw [c6]; omega), _, g2, line_lt (by rw [List.length_map, List.length_take]; omega), Same.mut g1 hB, ?_⟩
          rw [upd_same, take_succ' (show (d.regs.map fun r => partT (true, r))[i]? = some (partT (true, r)) by rw [List.getElem?_map, er]; rfl), List.map_append]
          rfl
        · rintro G ⟨g1, g2⟩
          rw [List.length_map, show d.regs.length = (d.regs.map fun r => partT (true, r)).length by rw [List.length_map], List.take_length] at g2
          have sG := Same.trans s5 g1
          refine ⟨_, rfl, B, D, _, _, rfl, rfl, g2, sG _ _ h4, by rw [List.length_map, List.length_map, List.length_map, List.length_map]; have := parts_le d; rw [parts_split, List.length_append, List.length_map, List.length_map] at this; exact line5 (by omega), fun p5 hp5 => ?_⟩
          have e5 : (d.regs.map fun r => partT (true, r)).map V.str ++ (d.nums.map intT).map V.str = (d.parts.map partT).map V.str := by
            rw [parts_split, List.map_append, List.map_append, List.map_map, List.map_map, List.map_map, List.map_map, List.map_map, List.map_map]
            rfl
          rw [e5]
          have t5 : Same G (upd G p5 (.lst ((d.parts.map partT).map V.str))) := Same.add hp5
          have h5 : (upd G p5 (.lst ((d.parts.map partT).map V.str))) p5 = some (.lst ((d.parts.map partT).map V.str)) := upd_same
          generalize upd G p5 (.lst ((d.parts.map partT).map V.str)) = G5 at t5 h5 ⊢
          refine ⟨_, rfl, _, rfl, line5 (by simp), fun p6 hp6 => ?_⟩
          have t6 : Same G5 (upd G5 p6 (.lst [])) := Same.add hp6
          have h6 : (upd G5 p6 (.lst [])) p6 = some (.lst []) := upd_same
          generalize upd G5 p6 (.lst []) = G6 at t6 h6 ⊢
          have h56 := t6 _ _ h5
          have sZ := Same.trans (Same.trans sB s4) (Same.trans sG (Same.trans t5 t6))
          refine ⟨_, _, .lst (SqL.of h56) (dp_strs _), .lst (SqL.of h6) .nil, strs_shaped fun x hx => ?_, strs_shaped (l := []) (fun _ h => by cases h), .inr ⟨_, rfl, _, _, rfl, rfl, by split <;> omega, by split <;> omega, by rw [c5]; omega, _, _, rfl, rfl, ?_, ?_⟩⟩
          · obtain ⟨p, _, rfl⟩ := List.mem_map.mp hx
            exact cl_part p
          · have nl := name_short hok
            have := rep_le (PyData.eqv (.list ((d.parts.map partT).map PyData.str)) (.list []))
            exact line5 (by omega)
          · have hpl := parts_le d
            have jl := parts_len hok
            refine ⟨rfl, _, rfl, ", ", p5, d.parts.map partT, rfl, rfl, .inl (SqL.of h56), ?_, _, _, rfl, rfl, ?_, ?_⟩
            · rw [List.length_map, c3]
              have := parts_sum hok
              omega
            · have nl := name_short hok
              have := rep_le (PyData.eqv (.list ((d.parts.map partT).map PyData.str)) (.list []))
              rw [sapp_len]
              exact line5 (by omega)
            · have := q G6 sZ
              rw [lists_nil]
              by_cases hn : d.parts = []
              · rw [hn]
                have e : rowT d = d.name := by
                  cases d with
                  | sgl k => rfl
                  | jump k g f => cases hg
                  | call g f => cases hg
                  | _ => cases hn
                rw [e] at this
                have e2 : (d.name ++ repS (" " : Str) (if (!decide (([] : List (Bool × Int)).map partT = [])) = true then 1 else 0 : Int).toNat) ++ Txt.join ", " (([] : List (Bool × Int)).map partT) = d.name := by
                  have e3 : repS (" " : Str) (if (!decide (([] : List (Bool × Int)).map partT = [])) = true then 1 else 0 : Int).toNat = Str.empty := by decide +kernel
                  rw [e3, List.map_nil, join_nil, PySem.Str.append_empty, PySem.Str.append_empty]
                rw [e2]
                exact this
              · have hm : d.parts.map partT ≠ [] := fun z => hn (List.map_eq_nil_iff.mp z)
                rw [decide_eq_false hm]
                rw [rowT_parts hg hn] at this
                have e3 : repS (" " : Str) (if (!false) = true then 1 else 0 : Int).toNat = " " := by decide +kernel
                rw [e3]
                exact this
abbrev KnLRow (P : Program) (w : World) (K : PySem.W.Frag) (mg : Str → Option Value) (base : Heap) : Prop := Kn P w K mg base CX0 1 "_law_row_of" ["_law_deed_here"] [] (spRowT K)
end
end Bm
set_option maxHeartbeats 800000
namespace Bm
open PySem PySem.Spec PyProof.Rows L2
noncomputable def goalsOf (ws : List Int) : List Int := (met ws).filterMap fun m => (kept ws m.2).bind De.goal
def labT (p : Nat) : Str := "p" ++ intT (p : Int) ++ ": "
noncomputable def bodyT (ws : List Int) (m : Nat × Option De) : Str := match kept ws m.2 with
  | none => wordT ((ws.drop m.1).take (sizeO m.1 m.2))
  | some d => rowT d
noncomputable def rowS (ws : List Int) (m : Nat × Option De) : Str := (if decide ((m.1 : Int) ∈ goalsOf ws) = true then labT m.1 else "") ++ bodyT ws m
def endT (n : Nat) : Str := "p" ++ intT (n : Int) ++ ":"
noncomputable def rowsS (ws : List Int) : List Str := (met ws).map (rowS ws) ++ (if decide ((ws.length : Int) ∈ goalsOf ws) = true then [endT ws.length] else [])
noncomputable def shownT (ws : List Int) : Str := Txt.join "\n" (rowsS ws)
theorem kept_of {ws : List Int} {o : Option De} {d : De} (h : kept ws o = some d) : o = some d := by
  unfold kept at h
  split at h
  · exact h
  · split at h
    · exact h
    · cases h
theorem joinV {c : Bool} {A B : Prop} {Z G : V → Hp → Prop} (tail : ∀ x H, G x H → Z x H) (h : (∀ x H, G x H → Z x H) → if c = true then A else B) : if c = true then A else B := h tail
theorem span_ints {ws : List Int} {p k : Nat} : ((vInts ws).drop p).take k = vInts ((ws.drop p).take k) := by
  unfold vInts
  rw [List.map_take, List.map_drop]
theorem size2' (p : Nat) (o : Option De) : sizeO p o ≤ 2 := by
  cases o with
  | none => exact Nat.le_succ 1
  | some d =>
    show (d.words p).length ≤ 2
    cases d with
    | jump k g f => cases f <;> exact Nat.le_of_ble_eq_true rfl
    | call g f => cases f <;> exact Nat.le_of_ble_eq_true rfl
    | _ => exact Nat.le_of_ble_eq_true rfl
theorem ok_goalOk2 {d : De} (h : d.ok) : goalOk d := fun g e => by
  cases d with
  | jump k x f =>
    have : x = g := Option.some.inj e
    have h : k < 7 ∧ 0 ≤ x ∧ x ≤ 65535 := h
    omega
  | call x f =>
    have : x = g := Option.some.inj e
    have h : 0 ≤ x ∧ x ≤ 65535 := h
    omega
  | _ => cases e
theorem lab_len {b : Bool} {p : Nat} (h : p ≤ 100000) : (if b = true then labT p else "" : Str).length ≤ 5003 := by
  have c0 : ("" : Str).length = 0 := by decide +kernel
  have c1 : ("p" : Str).length = 1 := by decide +kernel
  have c2 : (": " : Str).length = 2 := by decide +kernel
  have := intT_len (i := (p : Int)) (by omega)
  split
  · unfold labT
    rw [sapp_len, sapp_len, c1, c2]
    omega
  · omega
theorem wordT_len {l : List Int} (hw : wsOk l) (hl : l.length ≤ 300) : (wordT l).length ≤ 30000 := by
  have c1 : (", " : Str).length = 2 := by decide +kernel
  have c2 : (".word " : Str).length = 6 := by decide +kernel
  have sum : ∀ m : List Int, wsOk m → ((m.map fun x => ("0x" : Str) ++ figT 16 4 x.toNat).map (·.length)).sum = m.length * 6 := fun m => by
    induction m with
    | nil => intro _; rfl
    | cons x m ih =>
      intro h
      have hx := h x (List.mem_cons_self ..)
      rw [List.map_cons, List.map_cons, List.sum_cons, hex_len _ (by omega), ih fun y hy => h y (List.mem_cons_of_mem _ hy), List.length_cons]
      omega
  have s6 := sum l hw
  have jl := join_len (", ") (l.map fun x => ("0x" : Str) ++ figT 16 4 x.toNat)
  rw [s6, List.length_map, c1] at jl
  unfold wordT
  rw [sapp_len, c2]
  omega
theorem rowT_len {d : De} (h : d.ok) : (rowT d).length ≤ 30000 := by
  obtain ⟨c1, c2, c3, c4, c5⟩ := row_lens
  have gen : d.goal = none → (rowT d).length ≤ 30000 := fun hg => by
    by_cases hn : d.parts = []
    · cases d with
      | sgl k =>
        have := (nm_short k (Nat.lt_of_lt_of_le (show k < 3 from h) (by decide))).1
        show (nm SG k).length ≤ 30000
        omega
      | jump k g f => cases hg
      | call g f => cases hg
      | _ => cases hn
    · have h1 := name_short h
      have h2 := parts_len h
      rw [rowT_parts hg hn, sapp_len, sapp_len, c5]
      omega
  cases d with
  | jump k g f =>
    have hk : k < 7 ∧ 0 ≤ g ∧ g ≤ 65535 := h
    have kt := (nm_short k (Nat.lt_of_lt_of_le hk.1 (by decide))).2.2
    have := intT_len (i := g) (by omega)
    have ft := far_len f
    have fl : (farT f).length ≤ 4 := by rw [ft]; split <;> omega
    unfold rowT
    simp only [sapp_len, c1, c2, c3]
    omega
  | call g f =>
    have hk : 0 ≤ g ∧ g ≤ 65535 := h
    have := intT_len (i := g) (by omega)
    have ft := far_len f
    have fl : (farT f).length ≤ 4 := by rw [ft]; split <;> omega
    unfold rowT
    simp only [sapp_len, c4, c2]
    omega
  | _ => exact gen rfl
theorem body_len {ws : List Int} {m : Nat × Option De} (hw : wsOk ws) (hs : sizeO m.1 m.2 ≤ 2) (hok : ∀ d, kept ws m.2 = some d → d.ok) : (bodyT ws m).length ≤ 30000 := by
  unfold bodyT
  split
  · exact wordT_len (fun x hx => hw x (List.mem_of_mem_drop (List.mem_of_mem_take hx))) (by rw [List.length_take]; omega)
  · rename_i d e
    exact rowT_len (hok d e)
theorem joinH {c : Bool} {A B : Prop} {Z G : Hp → Prop} (tail : ∀ H, G H → Z H) (h : (∀ H, G H → Z H) → if c = true then A else B) : if c = true then A else B := h tail
theorem end_len {b : Bool} {p : Nat} (h : p ≤ 100000) : ((if b = true then [endT p] else []).map (·.length)).sum + (if b = true then [endT p] else []).length ≤ 5010 := by
  have c1 : ("p" : Str).length = 1 := by decide +kernel
  have c2 : (":" : Str).length = 1 := by decide +kernel
  have := intT_len (i := (p : Int)) (by omega)
  split
  · simp only [List.map_cons, List.map_nil, List.sum_cons, List.sum_nil, List.length_cons, List.length_nil]
    unfold endT
    rw [sapp_len, sapp_len, c1, c2]
    omega
  · simp
theorem rows_sum {ws : List Int} (hw : wsOk ws) (hl : ws.length ≤ 200) : ((rowsS ws).map (·.length)).sum + (rowsS ws).length ≤ 8000000 := by
  have e := end_len (b := decide ((ws.length : Int) ∈ goalsOf ws)) (p := ws.length) (by omega)
  have mlen := met_len ws
  have one : ∀ m ∈ met ws, (rowS ws m).length ≤ 36000 := fun m hm => by
    obtain ⟨i, hi⟩ := List.mem_iff_getElem?.mp hm
    have h1 := met_at hi
    have bl := body_len (ws := ws) (m := m) hw (size2' _ _) (fun d ed => by
      have := kept_of ed
      exact (atD_is (h1.2.symm.trans this)).1)
    have ll := lab_len (b := decide ((m.1 : Int) ∈ goalsOf ws)) (p := m.1) (by have := h1.1; omega)
    unfold rowS
    rw [sapp_len]
    omega
  have sm : ∀ l : List (Nat × Option De), (∀ m ∈ l, (rowS ws m).length ≤ 36000) → ((l.map (rowS ws)).map (·.length)).sum ≤ l.length * 36000 := fun l => by
    induction l with
    | nil => intro _; exact Nat.zero_le _
    | cons m l ih =>
      intro h
      have h1 := h m (List.mem_cons_self ..)
      have h2 := ih fun y hy => h y (List.mem_cons_of_mem _ hy)
      rw [List.map_cons, List.map_cons, List.sum_cons, List.length_cons, Nat.succ_mul]
      omega
  have h3 := sm (met ws) one
  unfold rowsS
  rw [List.map_append, List.sum_append, List.length_append, List.length_map]
  have : (met ws).length * 36000 ≤ 200 * 36000 := Nat.mul_le_mul_right _ (by omega)
  omega
theorem isW_ok2 {x : Int} (h : isW x = true) : 0 ≤ x ∧ x < 65536 := by
  unfold isW numB at h
  simp only [Bool.and_eq_true, decide_eq_true_eq] at h
  omega
theorem dcN_it {J : It} {n : Nat} {G : Hp → Prop} {Y : Nat → Hp → V → Hp → Prop} {P : Program} {w : World} (wk : Walk J n G Y) {g : TG} {tt : TT} {tk tv : TE} {vs : List Nat} {σ : L2.St} {H1 : Hp} {D : Addr} {Qd : Hp → Prop} (Pv : Nat → Hp → Prop) (h0 : Pv 0 (upd H1 D (NdO P w D []))) (hG : ∀ i H, i ≤ n → Pv i H → G H)
    (hs : ∀ i x H H', i < n → Pv i H → Y i H x H' → g x (wipe σ vs) H' fun σ2 H2 => wipe σ2 vs = wipe σ vs ∧ tt σ2 H2 fun b H3 =>
      if b = true then tk σ2 H3 fun y H4 => tv σ2 H4 fun z H5 => ∃ ks k, y = kN k ∧ z = .bl true ∧ H5 D = some (NdO P w D ks) ∧ ks.length ≤ 9000 ∧ Pv (i + 1) (upd H5 D (NdO P w D (putN ks k))) else Pv (i + 1) H3) (hd : ∀ H, Pv n H → Qd H) :
    ∃ Z : Nat → Nat → Hp → Prop, (∃ m, Z 0 m (upd H1 D (NdO P w D []))) ∧ ∀ i m G, Z i m G →
      (J.stop i G ∧ Qd G) ∨ (J.go i G ∧ ∃ Go : Hp → Prop, (∀ G', Go G' → ∃ m', m' < m ∧ Z (i + 1) m' G') ∧ ∀ x G', J.yld i G x G' → g x (wipe σ vs) G' fun τ G2 => wipe τ vs = wipe σ vs ∧ tt τ G2 fun b G3 =>
        if b = true then tk τ G3 fun y G4 => tv τ G4 fun z G5 => ∃ ks k, y = kN k ∧ z = .bl true ∧ G5 D = some (NdO P w D ks) ∧ ks.length ≤ 9000 ∧ Go (upd G5 D (NdO P w D (putN ks k))) else Go G3) := by
  refine ⟨fun i m H => i ≤ n ∧ m = n - i ∧ Pv i H, ⟨n, Nat.zero_le _, rfl, h0⟩, fun i m H w => ?_⟩
  obtain ⟨hi, hm, hp⟩ := w
  have hG' := hG i H hi hp
  cases Nat.lt_or_eq_of_le hi with
  | inl c => exact .inr ⟨wk.goes i H c hG', Pv (i + 1), fun H' z => ⟨n - (i + 1), by omega, c, rfl, z⟩, fun x H' y => hs i x H H' c hp (wk.yields i H x H' c hG' y)⟩
  | inr c =>
    rw [c] at hp ⊢
    exact .inl ⟨wk.stops H (hG n H (Nat.le_refl _) hp), hd H hp⟩
section
variable {P : Program} {w : World} {K : PySem.W.Frag} {mg : Str → Option Value} {base : Heap} {f : Addr} {fd : FuncData} {dvs : List V} {odd : List Str}
def spShown (K : PySem.W.Frag) : Sp := fun vs H Q _ => ∃ (a : Addr) (ws : List Int), vs = [.ref a] ∧ (SqL K H a (vInts ws) ∨ SqT K H a (vInts ws)) ∧ GoodI ws ∧ ∀ H', Same H H' → Q (.str (shownT ws)) H'
abbrev N_shown : List Str := ["image", "words", "told", "place", "deed", "many", "goals", "rows", "label"]
theorem sc_shown : FnScope ["image", "words", "told", "place", "deed", "many", "goals", "rows", "label"] ["image"] (defScope s_shown) := ⟨rfl, rfl, rfl, by decide +kernel, rfl, by decide +kernel, by decide +kernel⟩
theorem ok_shown (F : FnP K "shown" s_shown dvs f fd) (k_checked_image : KnImV P w K mg base) (k_told_deeds : KnTold P w K mg base) (k_goal_of : KnGo P w K mg base) (k_word_row : KnWrow P w K mg base) (k_deed_row : KnRow P w K mg base) (g_len : mg "len" = none) : FnOk P w K mg base CX0 7 f fd ["image"] (spShown K) := by
  refine F.ok sc_shown (fun vs H Q E h => ?_) (fun cdv A outer s H vs Q E hr h => ?_)
  · obtain ⟨a, ws, rfl, _⟩ := h
    rfl
  · obtain ⟨a, ws, rfl, hS, hg, q⟩ := h
    refine ⟨_, PSs.nox (pss_cons (ps_set (i := 1) sc_shown.nd rfl (Or.inl rfl) (pk k_checked_image hr (by decide) rfl pass0 (pa_cons (pv 0) pa_nil)))
      (pss_cons (ps_set (i := 2) sc_shown.nd rfl (Or.inl rfl) (pk k_told_deeds hr (by decide) rfl pass0 (pa_cons (pv 1) pa_nil)))
      (pss_cons (ps_setDcN (i := 6) (own := [("place", 3), ("deed", 4), ("many", 5)]) (g := gTup K 3 (gCons (gName 3) (gCons (gName 4) (gCons (gName 5) (gNil))))) rfl sc_shown.nd rfl rfl (sw_trueD rfl rfl rfl (by decide +kernel)) (pi_list (pv 2)) (blkOk_by (own := [("place", 3), ("deed", 4), ("many", 5)]) (N := N_shown) (sc := defScope s_shown) (by decide +kernel)) (fun _ _ _ _ _ => (pg_tup rfl (pgs_cons (pg_name (i := 3) sc_shown.nd rfl (Or.inl rfl)) (pgs_cons (pg_name (i := 4) sc_shown.nd rfl (Or.inl rfl)) (pgs_cons (pg_name (i := 5) sc_shown.nd rfl (Or.inl rfl)) pgs_nil))))) (fun _ _ _ _ _ => pts_nil) (fun _ _ _ _ _ => (pk k_goal_of hr (by decide) rfl pass0 (pa_cons (pv 4) pa_nil))) (fun _ _ _ _ _ => pe_bl))
      (pss_cons (ps_set (i := 7) sc_shown.nd rfl (Or.inl rfl) (pe_lst pa_nil))
      (pss_cons (ps_for PassesOwn.never rfl (pi_list (pv 2)) (pg_tup rfl (pgs_cons (pg_name (i := 3) sc_shown.nd rfl (Or.inl rfl)) (pgs_cons (pg_name (i := 4) sc_shown.nd rfl (Or.inl rfl)) (pgs_cons (pg_name (i := 5) sc_shown.nd rfl (Or.inl rfl)) pgs_nil))))
      (pss_cons (ps_set (i := 8) sc_shown.nd rfl (Or.inl rfl) (pe_ifExp (pt_cmpR (show OpR _ (compareOp .In) (rInNd P w) from op_inNd (hu_of hr)) (pv 3) (pv 6) rfl) (pe_joined (.cons pe_str (.cons (pe_fmt (pv 3)) (.cons pe_str .nil)))) pe_str))
      (pss_one (ps_expr (pe_bm PySem.F.plainAttrs_list PySem.F.slot_list_append PySem.F.type_list_append mt_append (pv 7) (pa_cons (pe_op op_add_str (pv 8) (pe_ifExp (pt_cmpR op_isN (pv 4) pe_non (nomark _)) (pk k_word_row hr (by decide) rfl pass0 (pa_cons (pe_slice sl_tupA (pv 1) (po_some (pv 3)) (po_some (pe_op op_add (pv 3) (pv 5)))) pa_nil)) (pk k_deed_row hr (by decide) rfl pass0 (pa_cons (pv 4) pa_nil)))) pa_nil))))))
      (pss_cons (ps_if (pt_cmpR (show OpR _ (compareOp .In) (rInNd P w) from op_inNd (hu_of hr)) (pe_callB call_len rfl g_len boot_len (pa_cons (pv 1) pa_nil)) (pv 6) rfl) (pss_one (ps_expr (pe_bm PySem.F.plainAttrs_list PySem.F.slot_list_append PySem.F.type_list_append mt_append (pv 7) (pa_cons (pe_joined (.cons pe_str (.cons (pe_fmt (pe_callB call_len rfl g_len boot_len (pa_cons (pv 1) pa_nil))) (.cons pe_str .nil)))) pa_nil)))) pss_nil)
      (pss_one (ps_ret (pe_bm PySem.F.plainAttrs_str PySem.F.slot_str_join PySem.F.type_str_join mt_join pe_str (pa_cons (pv 7) pa_nil)))))))))), ?_⟩
    have hw : wsOk ws := fun x hx => isW_ok2 (hg.2 x hx)
    have hl : ws.length ≤ 300 := Nat.le_trans hg.1 (by decide)
    refine ⟨_, rfl, a, ws, rfl, hS, hg, fun t H1 s1 ht => ?_⟩
    refine ⟨_, rfl, t, ws, rfl, ht, hl, hw, fun D rs H2 s2 hDn hDS hm => ?_⟩
    refine ⟨_, rfl, D, rfl, ⟨_, SqL.of hDS⟩, fun N hN => ?_⟩
    have hNn : H2 N = none := hN
    have rlen : rs.length = (met ws).length := hm.len
    have mlen := met_len ws
    have hok : ∀ {i : Nat} {p : Nat} {o : Option De}, (met ws)[i]? = some (p, o) → ∀ d, kept ws o = some d → d.ok := fun {i p o} hmi d e => by
      have h1 : o = some d := kept_of e
      have : o = atD ws p := (met_at hmi).2
      exact (atD_is (this.symm.trans h1)).1
    refine dcN_it (P := P) (w := w) (walk_list (xs := rs)) (fun i G => Same H2 G ∧ ∃ ks : List NK, G N = some (NdO P w N ks) ∧ ks.length ≤ i ∧ ∀ x : NK, x ∈ ks ↔ ∃ (j : Nat) (m : Nat × Option De), j < i ∧ (met ws)[j]? = some m ∧ x = keyO (kept ws m.2)) ⟨Same.add hN, [], upd_same, Nat.le_refl _, fun x => ⟨fun h => (List.not_mem_nil h).elim, fun ⟨_, _, h, _⟩ => absurd h (Nat.not_lt_zero _)⟩⟩ (fun i G _ h => h.1.seq (SqL.of hDS)) ?_ ?_
    · rintro i x G G' hi ⟨g1, ks, g2, g3, g4⟩ ⟨eH, eX⟩
      rw [eH]
      have hmG := hm.map (fun a xs => Same.tup (H' := G) (a := a) (xs := xs) g1)
      obtain ⟨r, v, p, o, rfl, hmi, hr3, hv⟩ := hmG.at_ eX
      have il := (List.getElem?_eq_some_iff.mp hmi).1
      refine ⟨r, _, rfl, hr3, rfl, _, _, rfl, _, _, rfl, _, _, rfl, rfl, rfl, ?_⟩
      refine ⟨_, rfl, v, kept ws o, rfl, hv, hok hmi, fun Gb sb => ⟨ks, keyO (kept ws o), gv_key _, rfl, sb _ _ g2, by omega, Same.mut (Same.trans g1 sb) hNn, putN ks (keyO (kept ws o)), upd_same, by have := putN_len ks (keyO (kept ws o)); omega, fun x => ?_⟩⟩
      rw [putN_mem, g4]
      constructor
      · rintro (rfl | ⟨j, m, hj, e1, e2⟩)
        · exact ⟨i, (p, o), Nat.lt_succ_self i, hmi, rfl⟩
        · exact ⟨j, m, by omega, e1, e2⟩
      · rintro ⟨j, m, hj, e1, e2⟩
        cases Nat.lt_or_eq_of_le (Nat.le_of_lt_succ hj) with
        | inl c => exact .inr ⟨j, m, c, e1, e2⟩
        | inr c =>
          rw [c, hmi] at e1
          rw [← Option.some.inj e1] at e2
          exact .inl e2
    · rintro G ⟨g1, ks, g2, g3, g4⟩
      rw [rlen] at g4
      have hkey : ∀ n : Nat, hasN ks (some (.inl (n : Int))) = decide ((n : Int) ∈ goalsOf ws) := fun n => by
        rw [Bool.eq_iff_iff, hasN_iff, decide_eq_true_eq, g4]
        unfold goalsOf
        rw [List.mem_filterMap]
        constructor
        · rintro ⟨j, m, _, e1, e2⟩
          refine ⟨m, List.mem_of_getElem? e1, ?_⟩
          unfold keyO at e2
          cases c : (kept ws m.2).bind De.goal with
          | none => rw [c] at e2; cases e2
          | some g =>
            rw [c] at e2
            rw [Sum.inl.inj (Option.some.inj e2)]
        · rintro ⟨m, hm1, e⟩
          obtain ⟨j, hj⟩ := List.mem_iff_getElem?.mp hm1
          refine ⟨j, m, (List.getElem?_eq_some_iff.mp hj).1, hj, ?_⟩
          unfold keyO
          rw [e]
          rfl
      refine ⟨line5 (by simp), fun R hR => ?_⟩
      have hRn : G R = none := hR
      have nNR : N ≠ R := fun z => by rw [z, hRn] at g2; cases g2
      have nDR : D ≠ R := fun z => by have := g1 _ _ hDS; rw [z, hRn] at this; cases this
      have sR : Same G (upd G R (.lst [])) := Same.add hR
      have eR : (upd G R (.lst [])) R = some (.lst []) := upd_same
      generalize upd G R (.lst []) = G1 at sR eR ⊢
      have s2R := Same.trans g1 sR
      have sH := Same.trans s1 s2
      have hHR : H R = none := noneOf2 (Same.trans sH g1) hRn
      refine ⟨_, rfl, D, rfl, ⟨_, SqL.of (s2R _ _ hDS)⟩, for_list (K := K) (a := D) (xs := rs) (fun i σ Ga => ∃ v3 v4 v5 v8 : Option V, σ = [some (.ref a), some (.ref t), some (.ref D), v3, v4, v5, some (.ref N), some (.ref R), v8] ∧ Same H Ga ∧ Ga D = some (.lst rs) ∧ TdV K Ga ws rs (met ws) ∧ Ga N = some (NdO P w N ks) ∧ SqT K Ga t (vInts ws) ∧ Ga R = some (.lst ((((met ws).take i).map (rowS ws)).map V.str)))
        ⟨none, none, none, none, rfl, Same.trans sH s2R, s2R _ _ hDS, hm.map (fun a xs => Same.tup s2R), sR _ _ g2, Same.tup (Same.trans s2 s2R) ht, eR⟩ (fun i σ Ga _ h => ?_) ?_ ?_⟩
      · obtain ⟨_, _, _, _, _, _, h, _⟩ := h
        exact SqL.of h
      · rintro i x σ Ga hi ⟨v3, v4, v5, v8, rfl, sa, aD, am, aN, at_, aR⟩
        obtain ⟨r, v, p, o, rfl, hmi, hr3, hv⟩ := am.at_ hi
        have il := (List.getElem?_eq_some_iff.mp hmi).1
        have hpl := (met_at hmi).1
        refine ⟨r, _, rfl, hr3, rfl, _, _, rfl, _, _, rfl, _, _, rfl, rfl, ?_⟩
        refine ⟨_, rfl, _, rfl, N, ks, some (.inl (p : Int)), rfl, rfl, aN, _, rfl, ?_⟩
        rw [hkey p]
        have c1 : ("p" : Str).length = 1 := by decide +kernel
        have c2 : (": " : Str).length = 2 := by decide +kernel
        have pl := intT_len (i := (p : Int)) (by omega)
        have pl' : (PySem.Str.ofString (toString (p : Int))).length ≤ 5000 := pl
        refine joinV (Z := ?Z) (G := fun x Gb => x = V.str (if decide ((p : Int) ∈ goalsOf ws) = true then labT p else "") ∧ Gb = Ga) ?tail fun tail => ?both
        case both =>
          by_cases c : ¬ (p : Int) ∈ goalsOf ws
          · rw [decide_eq_false c]
            refine iteF ?_
            unfold tC
            have e : V.str ("" : Str) = V.str (if decide ((p : Int) ∈ goalsOf ws) = true then labT p else "") := by rw [if_neg (by rw [decide_eq_false c]; decide)]
            generalize hx : V.str ("" : Str) = x
            exact tail x Ga ⟨by rw [← hx]; exact e, rfl⟩
          · have c := Classical.not_not.mp c
            rw [decide_eq_true c]
            refine iteT ⟨_, rfl, line5 (by rw [PySem.Str.empty_append, c1]; decide), _, rfl, .inr ⟨(p : Int), rfl, log_of (by omega), _, rfl, line5 (by rw [PySem.Str.empty_append, sapp_len, c1]; omega), _, rfl, line5 (by rw [PySem.Str.empty_append, sapp_len, sapp_len, c1, c2]; omega), ?_⟩⟩
            unfold tJs
            rw [PySem.Str.empty_append]
            have e : V.str (labT p) = V.str (if decide ((p : Int) ∈ goalsOf ws) = true then labT p else "") := by rw [if_pos (decide_eq_true c)]
            exact tail (V.str (labT p)) Ga ⟨e, rfl⟩
        case tail =>
          intro x Gb hx
          rw [hx.2, hx.1]
          refine ⟨_, rfl, .inl ⟨rfl, _, SqL.of aR⟩, _, rfl, _, rfl, rfl, _, rfl, ?_⟩
          have hvo : (kept ws o = none ∧ v = .non) ∨ ∃ d pd, kept ws o = some d ∧ v = .ref pd ∧ SqT K Ga pd d.vals := by
            cases ck : kept ws o with
            | none => rw [ck] at hv; exact .inl ⟨rfl, hv⟩
            | some d => rw [ck] at hv; exact .inr ⟨d, hv.choose, rfl, hv.choose_spec⟩
          have hsz := size2' p o
          refine joinV (Z := ?Z2) (G := fun x Gb => x = V.str (bodyT ws (p, o)) ∧ Same Ga Gb) ?tail2 fun tail2 => ?both2
          case both2 =>
            rcases hvo with ⟨ek, ev⟩ | ⟨d, pd, ek, ev, hd⟩
            · rw [decide_eq_true ev]
              refine iteT ⟨_, rfl, _, rfl, _, rfl, _, rfl, _, rfl, _, _, rfl, rfl, _, rfl, rsl at_ fun b Gb sb hb => ?_⟩
              rw [cut_span, span_ints] at hb
              refine ⟨b, _, rfl, hb, by rw [List.length_take, List.length_drop]; omega, fun x hx => hw x (List.mem_of_mem_drop (List.mem_of_mem_take hx)), fun Gc sc => ?_⟩
              have eb : bodyT ws (p, o) = wordT ((ws.drop p).take (sizeO p o)) := by
                unfold bodyT
                rw [show kept ws (p, o).2 = none from ek]
              generalize hx : V.str (wordT ((ws.drop p).take (sizeO p o))) = x
              exact tail2 x Gc ⟨by rw [eb, hx], Same.trans sb sc⟩
            · rw [decide_eq_false (by rw [ev]; simp)]
              have hokd := hok hmi d ek
              refine iteF ⟨_, rfl, pd, d, by rw [ev]; rfl, hd, hokd, ok_goalOk2 hokd, fun Gb sb => ?_⟩
              have eb : bodyT ws (p, o) = rowT d := by
                unfold bodyT
                rw [show kept ws (p, o).2 = some d from ek]
              exact tail2 (V.str (rowT d)) Gb ⟨by rw [eb], sb⟩
          case tail2 =>
            intro x Gc hx
            rw [hx.1]
            have sc := hx.2
            clear hx
            have hokd : ∀ d, kept ws o = some d → d.ok := hok hmi
            have bl := body_len (ws := ws) (m := (p, o)) hw hsz hokd
            have ll := lab_len (b := decide ((p : Int) ∈ goalsOf ws)) (p := p) (by omega)
            have aRc := sc _ _ aR
            have sHc := Same.trans sa sc
            refine ⟨_, _, rfl, rfl, line5 (by omega), R, _, _, rfl, rfl, aRc, line_lt (by rw [List.length_map, List.length_map, List.length_take]; omega), _, _, _, _, rfl, Same.mut sHc hHR, ?_, ?_, ?_, ?_, ?_⟩
            · rw [upd_ne nDR]
              exact sc _ _ aD
            · exact (am.map (fun a xs => Same.tup sc)).map (fun a xs => tup_put2 aRc)
            · rw [upd_ne nNR]
              exact sc _ _ aN
            · exact tup_put2 aRc (Same.tup sc at_)
            · rw [upd_same, take_succ' hmi, List.map_append, List.map_append]
              rfl
      · rintro σ Ga ⟨v3, v4, v5, v8, rfl, sa, aD, am, aN, at_, aR⟩
        rw [rlen, List.take_length] at aR
        have vl : (vInts ws).length = ws.length := List.length_map ..
        have c1 : ("p" : Str).length = 1 := by decide +kernel
        have c2 : (":" : Str).length = 1 := by decide +kernel
        have pl := intT_len (i := (ws.length : Int)) (by omega)
        have pl' : (PySem.Str.ofString (toString (ws.length : Int))).length ≤ 5000 := pl
        refine ⟨_, rfl, _, _, rfl, .inr ⟨_, at_, rfl⟩, _, rfl, N, ks, some (.inl ((vInts ws).length : Nat)), rfl, rfl, aN, _, rfl, ?_⟩
        rw [vl, hkey ws.length]
        refine joinH (Z := ?Z3) (G := fun Gb => Same H Gb ∧ Gb R = some (.lst ((rowsS ws).map V.str))) ?tail3 fun tail3 => ?both3
        case both3 =>
          by_cases c : ¬ (ws.length : Int) ∈ goalsOf ws
          · rw [decide_eq_false c]
            refine iteF ?_
            refine tail3 Ga ⟨sa, ?_⟩
            unfold rowsS
            rw [if_neg (by rw [decide_eq_false c]; decide), List.append_nil]
            exact aR
          · have c := Classical.not_not.mp c
            rw [decide_eq_true c]
            refine iteT ⟨_, rfl, .inl ⟨rfl, _, SqL.of aR⟩, _, rfl, line5 (by rw [PySem.Str.empty_append, c1]; decide), _, rfl, _, _, rfl, .inr ⟨_, at_, rfl⟩, .inr ⟨((vInts ws).length : Nat), rfl, log_of (by rw [vl]; omega), _, rfl, ?_⟩⟩
            rw [vl]
            refine ⟨line5 (by rw [PySem.Str.empty_append, sapp_len, c1]; omega), _, rfl, line5 (by rw [PySem.Str.empty_append, sapp_len, sapp_len, c1, c2]; omega), ?_⟩
            unfold tJs
            rw [PySem.Str.empty_append]
            refine ⟨R, _, _, rfl, rfl, aR, line_lt (by rw [List.length_map, List.length_map]; omega), ?_⟩
            refine tail3 _ ⟨Same.mut sa hHR, ?_⟩
            unfold rowsS
            rw [if_pos (decide_eq_true c), upd_same, List.map_append]
            rfl
        case tail3 =>
          rintro Gb ⟨sb, bR⟩
          have nl : ("\n" : Str).length = 1 := by decide +kernel
          have sm := rows_sum (ws := ws) hw hg.1
          refine ⟨rfl, _, rfl, _, R, rowsS ws, rfl, rfl, .inl (SqL.of bR), by rw [nl]; omega, ?_⟩
          exact q Gb sb
abbrev KnShown (P : Program) (w : World) (K : PySem.W.Frag) (mg : Str → Option Value) (base : Heap) : Prop := Kn P w K mg base CX0 7 "shown" ["image"] [] (spShown K)
end
end Bm
set_option maxHeartbeats 1600000
namespace Bm
open PySem PySem.Spec PyProof.Rows L2
theorem rix_seq {K : PySem.W.Frag} {H : Hp} {a : Addr} {xs : List V} {i : Int} {v : V} {Q : VK} (hS : SqL K H a xs ∨ SqT K H a xs) (hx : atI xs i = some v) (q : Q v H) : rIx K (.ref a) (.int i) H Q := by
  rcases hS with h | h
  · exact .inl ⟨a, xs, i, v, rfl, rfl, h, hx, q⟩
  · exact .inr (.inl ⟨a, xs, i, v, rfl, rfl, h, hx, q⟩)
theorem seq_same {K : PySem.W.Frag} {H H' : Hp} {a : Addr} {xs : List V} (e : Same H H') (h : SqL K H a xs ∨ SqT K H a xs) : SqL K H' a xs ∨ SqT K H' a xs := h.imp (fun h => e.seq h) (fun h => Same.tup e h)
theorem is1 {ws : List Int} {p : Nat} {x : Int} {d : De} (hx : ws[p]? = some x) (h1 : d.ok) (h2 : d.reached p) (h3 : d.words p = [x]) : IsAt ws p d := by
  obtain ⟨hl, e⟩ := List.getElem?_eq_some_iff.mp hx
  refine ⟨h1, h2, ?_⟩
  rw [h3, List.drop_eq_getElem_cons hl, e]
  rfl
theorem is2 {ws : List Int} {p : Nat} {x y : Int} {d : De} (hx : ws[p]? = some x) (hy : ws[p + 1]? = some y) (h1 : d.ok) (h2 : d.reached p) (h3 : d.words p = [x, y]) : IsAt ws p d := by
  obtain ⟨hl, e⟩ := List.getElem?_eq_some_iff.mp hx
  obtain ⟨hm, e2⟩ := List.getElem?_eq_some_iff.mp hy
  refine ⟨h1, h2, ?_⟩
  rw [h3, List.drop_eq_getElem_cons hl, e, List.drop_eq_getElem_cons hm, e2]
  rfl
/-- what a word is that a deed begins with -/
theorem at_form {ws : List Int} {p : Nat} {d : De} {x : Int} (h : IsAt ws p d) (hx : ws[p]? = some x) :
    (∃ k : Nat, k < 3 ∧ x = k * 512) ∨ (∃ (k : Nat) (a : Int), 3 ≤ k ∧ k < 7 ∧ 0 ≤ a ∧ a ≤ 7 ∧ x = k * 512 + a * 64) ∨ (4096 ≤ x ∧ x < 16384) ∨ (∃ a n : Int, 0 ≤ a ∧ a ≤ 7 ∧ 0 ≤ n ∧ n ≤ 127 ∧ x = 16384 + a * 512 + n) ∨ (20480 ≤ x ∧ x < 28672) ∨
    (∃ (k : Nat) (g : Int), k < 7 ∧ 0 ≤ g ∧ near g p ∧ x = 28672 + k * 512 + (g - p - 1) % 32) ∨ (∃ k : Nat, k < 7 ∧ x = 32768 + k * 512 ∧ p + 1 < ws.length) ∨
    (∃ g : Int, 0 ≤ g ∧ near g p ∧ x = 36864 + (g - p - 1) % 32) ∨ (x = 40960 ∧ p + 1 < ws.length) := by
  have hw := at_words h hx
  obtain ⟨ok, re, _⟩ := h
  have single : ∀ {w : Int}, d.words p = [w] → x = w := fun {w} e => by
    rcases hw with ⟨y, e2, _⟩ | e2
    · rw [e] at e2; cases e2
    · rw [e] at e2
      exact ((List.cons.inj e2).1).symm
  have double : ∀ {w g : Int}, d.words p = [w, g] → x = w ∧ p + 1 < ws.length := fun {w g} e => by
    rcases hw with ⟨y, e2, e3⟩ | e2
    · rw [e] at e2
      exact ⟨((List.cons.inj e2).1).symm, (List.getElem?_eq_some_iff.mp e3).1⟩
    · rw [e] at e2; cases e2
  cases d with
  | sgl k => exact .inl ⟨k, ok, single rfl⟩
  | reg k a =>
    obtain ⟨k3, k7, ha⟩ := ok
    exact .inr (.inl ⟨k, a, k3, k7, ha.1, ha.2, single rfl⟩)
  | sum k d a b =>
    obtain ⟨hk, hd, ha, hb⟩ := ok
    have hd : 0 ≤ d ∧ d ≤ 7 := hd
    have ha : 0 ≤ a ∧ a ≤ 7 := ha
    have hb : 0 ≤ b ∧ b ≤ 7 := hb
    have e : x = 4096 + d * 512 + a * 64 + b * 8 + (k : Int) := single rfl
    exact .inr (.inr (.inl ⟨by omega, by omega⟩))
  | plus d a n =>
    obtain ⟨hd, ha, hn⟩ := ok
    have hd : 0 ≤ d ∧ d ≤ 7 := hd
    have ha : 0 ≤ a ∧ a ≤ 7 := ha
    have e : x = 8192 + d * 512 + a * 64 + n % 64 := single rfl
    exact .inr (.inr (.inl ⟨by omega, by omega⟩))
  | set d n =>
    obtain ⟨hd, hn⟩ := ok
    have hd : 0 ≤ d ∧ d ≤ 7 := hd
    have e : x = 12288 + d * 512 + n := single rfl
    exact .inr (.inr (.inl ⟨by omega, by omega⟩))
  | high d n =>
    obtain ⟨hd, hn⟩ := ok
    exact .inr (.inr (.inr (.inl ⟨d, n, hd.1, hd.2, hn.1, hn.2, single rfl⟩)))
  | load d a n =>
    obtain ⟨hd, ha, hn⟩ := ok
    have hd : 0 ≤ d ∧ d ≤ 7 := hd
    have ha : 0 ≤ a ∧ a ≤ 7 := ha
    have e : x = 20480 + d * 512 + a * 64 + n := single rfl
    exact .inr (.inr (.inr (.inr (.inl ⟨by omega, by omega⟩))))
  | store d a n =>
    obtain ⟨hd, ha, hn⟩ := ok
    have hd : 0 ≤ d ∧ d ≤ 7 := hd
    have ha : 0 ≤ a ∧ a ≤ 7 := ha
    have e : x = 24576 + d * 512 + a * 64 + n := single rfl
    exact .inr (.inr (.inr (.inr (.inl ⟨by omega, by omega⟩))))
  | jump k g f =>
    cases f with
    | true =>
      obtain ⟨e, l⟩ := double (w := 32768 + (k : Int) * 512) (g := g) rfl
      exact .inr (.inr (.inr (.inr (.inr (.inr (.inl ⟨k, ok.1, e, l⟩))))))
    | false => exact .inr (.inr (.inr (.inr (.inr (.inl ⟨k, g, ok.1, ok.2.1, re, single rfl⟩)))))
  | call g f =>
    have hg : 0 ≤ g ∧ g ≤ 65535 := ok
    cases f with
    | true =>
      obtain ⟨e, l⟩ := double (w := 40960) (g := g) rfl
      exact .inr (.inr (.inr (.inr (.inr (.inr (.inr (.inr ⟨e, l⟩)))))))
    | false => exact .inr (.inr (.inr (.inr (.inr (.inr (.inr (.inl ⟨g, hg.1, re, single rfl⟩)))))))
theorem at_none {ws : List Int} {p : Nat} {x g0 : Int} (hx : ws[p]? = some x) (c0 : ¬ x / 4096 = 0) (c1 : ¬ x / 4096 = 1) (c2 : ¬ x / 4096 = 2) (c3 : ¬ x / 4096 = 3) (c4 : ¬ (x / 4096 = 4 ∧ x % 4096 % 512 < 128)) (c5 : ¬ x / 4096 = 5) (c6 : ¬ x / 4096 = 6) (hn : near g0 p) (hm : (g0 - (p : Int) - 1) % 32 = x % 32)
    (c7 : ¬ (x / 4096 = 7 ∧ x % 4096 / 512 < 7 ∧ x % 4096 % 512 < 32 ∧ 0 ≤ g0)) (c9 : ¬ (x / 4096 = 9 ∧ x % 4096 < 32 ∧ 0 ≤ g0)) (h1 : ∀ k : Nat, k < 7 → x = 32768 + k * 512 → p + 1 < ws.length → False) (h2 : x = 40960 → p + 1 < ws.length → False) : ∀ d, ¬ IsAt ws p d := fun d hd => by
  have hn : -16 ≤ g0 - (p : Int) - 1 ∧ g0 - (p : Int) - 1 ≤ 15 := hn
  rcases at_form hd hx with ⟨k, h⟩ | ⟨k, b, h⟩ | h | ⟨b, n, h⟩ | h | ⟨k, g, g1, g2, g3, g4⟩ | ⟨k, h⟩ | ⟨g, g2, g3, g4⟩ | h
  · clear hm c7 c9 c4
    omega
  · clear hm c7 c9 c4
    omega
  · clear hm c7 c9 c4
    omega
  · clear hm c7 c9
    exact c4 ⟨by omega, by omega⟩
  · clear hm c7 c9 c4
    omega
  · have g3 : -16 ≤ g - (p : Int) - 1 ∧ g - (p : Int) - 1 ≤ 15 := g3
    have e : g0 = g := by
      have e32 : (g - (p : Int) - 1) % 32 = x % 32 := by clear c4 c7 c9 hm; omega
      clear c0 c1 c2 c3 c4 c5 c6 c7 c9 g4
      omega
    clear hm c4 c9
    exact c7 ⟨by omega, by omega, by omega, by rw [e]; exact g2⟩
  · exact h1 k h.1 h.2.1 h.2.2
  · have g3 : -16 ≤ g - (p : Int) - 1 ∧ g - (p : Int) - 1 ≤ 15 := g3
    have e : g0 = g := by
      have e32 : (g - (p : Int) - 1) % 32 = x % 32 := by clear c4 c7 c9 hm; omega
      clear c0 c1 c2 c3 c4 c5 c6 c7 c9 g4
      omega
    clear hm c4 c7
    exact c9 ⟨by omega, by omega, by rw [e]; exact g2⟩
  · exact h2 h.1 h.2
theorem none_at : ∀ k, k < 8 → ((SG ++ (["none"] : List Str)).map V.str)[k]? = some (.str (nm (SG ++ (["none"] : List Str)) k)) ∧ (nm (SG ++ (["none"] : List Str)) k = "none" ↔ k = 7) ∧ (k < 7 → nm (SG ++ (["none"] : List Str)) k = nm SG k) := by decide +kernel
section
variable {P : Program} {w : World} {K : PySem.W.Frag} {mg : Str → Option Value} {base : Heap} {f : Addr} {fd : FuncData} {dvs : List V} {odd : List Str}
/-! _law_deed_at -/
def spLAt (K : PySem.W.Frag) : Sp := fun vs H Q _ => ∃ (a : Addr) (ws : List Int) (p : Nat), vs = [.ref a, .int (p : Nat)] ∧ (SqL K H a (vInts ws) ∨ SqT K H a (vInts ws)) ∧ p < ws.length ∧ (∀ x ∈ ws, 0 ≤ x ∧ x < 65536) ∧ p + 100 ≤ 65535 ∧
  (∀ d r pd H', IsAt ws p d → Same H H' → SqT K H' pd d.vals → SqT K H' r [.ref pd, .int ((d.words p).length : Nat)] → Q (.ref r) H') ∧ ((∀ d, ¬ IsAt ws p d) → ∀ H', Same H H' → Q .non H')
abbrev N__law_deed_at : List Str := ["_law_image_here", "_law_place", "_law_form", "_law_rest", "_law_d", "_law_a", "_law_b", "_law_low", "_law_word", "_law_number_here", "_law_near"]
theorem sc__law_deed_at : FnScope ["_law_image_here", "_law_place", "_law_form", "_law_rest", "_law_d", "_law_a", "_law_b", "_law_low", "_law_word", "_law_number_here", "_law_near"] ["_law_image_here", "_law_place"] (defScope s__law_deed_at) := ⟨rfl, rfl, rfl, by decide +kernel, rfl, by decide +kernel, by decide +kernel⟩
theorem ok_lat (F : FunD K "_law_deed_at" "_law_deed_at" (defArgs s__law_deed_at) (defBody s__law_deed_at) (defScope s__law_deed_at) dvs [] f fd) (k__law_plain : KnNm P w K mg base "_law_plain" SG) (k__law_pairs : KnNm P w K mg base "_law_pairs" SM) (k__law_times : KnNm P w K mg base "_law_times" TM)
    (g_divmod : mg "divmod" = none) (g_int : mg "int" = none) (g_len : mg "len" = none) : FnOk P w K mg base CX0 2 f fd ["_law_image_here", "_law_place"] (spLAt K) := by
  refine F.ok sc__law_deed_at (fun vs H Q E h => ?_) (fun cdv A outer s H vs Q E hr h => ?_)
  · obtain ⟨a, ws, p, rfl, _⟩ := h
    rfl
  · obtain ⟨a, ws, p, rfl, hS, hp, hw, hp2, q1, q2⟩ := h
    refine ⟨_, PSs.nox (pss_cons (ps_asg (pe_callB call_divmod rfl g_divmod (by decide +kernel) (pa_cons (pe_ix ix_seq (pv 0) (pv 1) (fun _ _ => rfl)) (pa_cons pe_int pa_nil))) (pg_tup rfl (pgs_cons (pg_name (i := 2) sc__law_deed_at.nd rfl (Or.inl rfl)) (pgs_cons (pg_name (i := 3) sc__law_deed_at.nd rfl (Or.inl rfl)) pgs_nil))))
      (Evl.pss_cut (ps_asg (pe_tup (pa_cons (pe_op op_fdivN (pv 3) pe_int) (pa_cons (pe_op op_modN (pe_op op_fdivN (pv 3) pe_int) pe_int) (pa_cons (pe_op op_modN (pe_op op_fdivN (pv 3) pe_int) pe_int) (pa_cons (pe_op op_modN (pv 3) pe_int) pa_nil))))) (pg_tup rfl (pgs_cons (pg_name (i := 4) sc__law_deed_at.nd rfl (Or.inl rfl)) (pgs_cons (pg_name (i := 5) sc__law_deed_at.nd rfl (Or.inl rfl)) (pgs_cons (pg_name (i := 6) sc__law_deed_at.nd rfl (Or.inl rfl)) (pgs_cons (pg_name (i := 7) sc__law_deed_at.nd rfl (Or.inl rfl)) pgs_nil))))))
      (pss_cons (ps_if (pt_cmpR op_eq (pv 2) pe_int (nomark _)) (pss_cons (ps_set (i := 8) sc__law_deed_at.nd rfl (Or.inl rfl) (pe_ix ix_list (pe_op op_cat (pk0 k__law_plain hr (by decide) rfl pass0) (pe_lst (pa_cons pe_str pa_nil))) (pv 4) (fun _ _ => rfl)))
      (pss_cons (ps_if (PW.pt (pw_or (pt_cmpR op_gt (pe_op op_modN (pv 3) pe_int) pe_int (nomark _)) (pw_or (pt_cmpR op_eq (pv 8) pe_str (nomark _)) (pw_or1 (PW.pt (pw_and (pt_cmpR op_lt (pv 4) pe_int (nomark _)) (pw_and1 (pt_cmpR op_gt (pv 5) pe_int (nomark _))))))))) (pss_one (ps_ret pe_non)) pss_nil)
      (pss_one (ps_ret (pe_tup (pa_cons (pe_op op_catA (pe_tup (pa_cons (pv 8) pa_nil)) (pe_ifExp (pt_cmpR op_lt (pv 4) pe_int (nomark _)) (pe_tup pa_nil) (pe_tup (pa_cons (pv 5) pa_nil)))) (pa_cons pe_int pa_nil))))))) pss_nil)
      (pss_cons (ps_if (pt_cmpR op_eq (pv 2) pe_int (nomark _)) (pss_one (ps_ret (pe_tup (pa_cons (pe_tup (pa_cons (pe_ix ix_list (pk0 k__law_pairs hr (by decide) rfl pass0) (pv 7) (fun _ _ => rfl)) (pa_cons (pv 4) (pa_cons (pv 5) (pa_cons (pv 6) pa_nil))))) (pa_cons pe_int pa_nil))))) pss_nil)
      (pss_cons (ps_if (pt_cmpR op_in_seq (pv 2) (pe_tup (pa_cons pe_int (pa_cons pe_int (pa_cons pe_int pa_nil)))) rfl) (pss_cons (ps_set (i := 9) sc__law_deed_at.nd rfl (Or.inl rfl) (pe_op op_sub (pe_op op_modN (pv 3) pe_int) (pe_op op_mul pe_int (pe_callTy call_int1 rfl g_int (by decide +kernel) (pa_cons (pe_and (pe_cmpR op_eq (pv 2) pe_int (nomark _)) (pe_one (pe_cmpR op_gt (pe_op op_modN (pv 3) pe_int) pe_int (nomark _)))) pa_nil)))))
      (pss_one (ps_ret (pe_tup (pa_cons (pe_tup (pa_cons (pe_ix ix_list (pe_lst (pa_cons pe_str (pa_cons pe_str (pa_cons pe_str pa_nil)))) (pe_bm PySem.F.plainAttrs_list PySem.F.slot_list_index PySem.F.type_list_index mt_index (pe_lst (pa_cons pe_int (pa_cons pe_int (pa_cons pe_int pa_nil)))) (pa_cons (pv 2) pa_nil)) (fun _ _ => rfl)) (pa_cons (pv 4) (pa_cons (pv 5) (pa_cons (pv 9) pa_nil))))) (pa_cons pe_int pa_nil)))))) pss_nil)
      (Evl.pss_cut (ps_if (PW.pt (pw_or (pt_cmpR op_eq (pv 2) pe_int (nomark _)) (pw_or1 (PW.pt (pw_and (pt_cmpR op_eq (pv 2) pe_int (nomark _)) (pw_and1 (pt_cmpR op_lt (pe_op op_modN (pv 3) pe_int) pe_int (nomark _)))))))) (pss_one (ps_ret (pe_tup (pa_cons (pe_tup (pa_cons (pe_ix ix_list (pe_lst (pa_cons pe_str (pa_cons pe_str pa_nil))) (pe_op op_sub (pv 2) pe_int) (fun _ _ => rfl)) (pa_cons (pv 4) (pa_cons (pe_op op_modN (pv 3) pe_int) pa_nil)))) (pa_cons pe_int pa_nil))))) pss_nil)
      (pss_cons (ps_set (i := 10) sc__law_deed_at.nd rfl (Or.inl rfl) (pe_op op_sub (pe_op op_add (pe_op op_add (pv 1) pe_int) (pe_op op_modN (pv 3) pe_int)) (pe_op op_mul pe_int (pe_callTy call_int1 rfl g_int (by decide +kernel) (pa_cons (pe_cmpR op_gt (pe_op op_modN (pv 3) pe_int) pe_int (nomark _)) pa_nil)))))
      (Evl.pss_cut (ps_if (PW.pt (pw_and (pt_cmpR op_eq (pv 2) pe_int (nomark _)) (pw_and (pt_cmpR op_lt (pv 4) pe_int (nomark _)) (pw_and (pt_cmpR op_lt (pe_op op_modN (pv 3) pe_int) pe_int (nomark _)) (pw_and1 (pt_cmpR op_ge (pv 10) pe_int (nomark _))))))) (pss_one (ps_ret (pe_tup (pa_cons (pe_tup (pa_cons pe_str (pa_cons (pe_ix ix_list (pk0 k__law_times hr (by decide) rfl pass0) (pv 4) (fun _ _ => rfl)) (pa_cons (pv 10) (pa_cons pe_bl pa_nil))))) (pa_cons pe_int pa_nil))))) pss_nil)
      (Evl.pss_cut (ps_if (PW.pt (pw_and (pt_cmpR op_eq (pv 2) pe_int (nomark _)) (pw_and (pt_cmpR op_lt (pv 3) pe_int (nomark _)) (pw_and1 (pt_cmpR op_ge (pv 10) pe_int (nomark _)))))) (pss_one (ps_ret (pe_tup (pa_cons (pe_tup (pa_cons pe_str (pa_cons (pv 10) (pa_cons pe_bl pa_nil)))) (pa_cons pe_int pa_nil))))) pss_nil)
      (pss_cons (ps_if (pt_cmpR op_eq (pe_op op_add (pv 1) pe_int) (pe_callB call_len rfl g_len boot_len (pa_cons (pv 0) pa_nil)) (nomark _)) (pss_one (ps_ret pe_non)) pss_nil)
      (Evl.pss_cut (ps_if (PW.pt (pw_and (pt_cmpR op_eq (pv 2) pe_int (nomark _)) (pw_and (pt_cmpR op_lt (pv 4) pe_int (nomark _)) (pw_and1 (pt_cmpR op_eq (pe_op op_modN (pv 3) pe_int) pe_int (nomark _)))))) (pss_one (ps_ret (pe_tup (pa_cons (pe_tup (pa_cons pe_str (pa_cons (pe_ix ix_list (pk0 k__law_times hr (by decide) rfl pass0) (pv 4) (fun _ _ => rfl)) (pa_cons (pe_ix ix_seq (pv 0) (pe_op op_add (pv 1) pe_int) (fun _ _ => rfl)) (pa_cons pe_bl pa_nil))))) (pa_cons pe_int pa_nil))))) pss_nil)
      (pss_one (ps_ret (pe_ifExp (PW.pt (pw_and (pt_cmpR op_eq (pv 2) pe_int (nomark _)) (pw_and1 (pt_cmpR op_eq (pv 3) pe_int (nomark _))))) (pe_tup (pa_cons (pe_tup (pa_cons pe_str (pa_cons (pe_ix ix_seq (pv 0) (pe_op op_add (pv 1) pe_int) (fun _ _ => rfl)) (pa_cons pe_bl pa_nil)))) (pa_cons pe_int pa_nil))) pe_non)))))))))))))), ?_⟩
    have hx : ws[p]? = some ws[p] := List.getElem?_eq_getElem hp
    obtain ⟨x0, x1⟩ := hw _ (List.getElem_mem hp)
    generalize ws[p] = x at hx x0 x1
    have hxv : (vInts ws)[p]? = some (.int x) := by
      rw [vInts, List.getElem?_map, hx]
      rfl
    refine ⟨_, rfl, _, rfl, rix_seq hS (atI_nat hxv) ?_⟩
    refine ⟨_, _, rfl, ⟨by decide, by decide⟩, fun pt hpt => ?_⟩
    have s1 : Same H (upd H pt (.tup [.int (x / 4096), .int (x % 4096)])) := Same.add hpt
    have e1 : (upd H pt (.tup [.int (x / 4096), .int (x % 4096)])) pt = some (.tup [.int (x / 4096), .int (x % 4096)]) := upd_same
    generalize upd H pt (.tup [.int (x / 4096), .int (x % 4096)]) = H1 at s1 e1 ⊢
    refine ⟨pt, _, rfl, SqT.of e1, rfl, _, _, rfl, _, _, rfl, rfl, ?_⟩
    refine ⟨fun σ H' => Same H H' ∧ σ = [some (.ref a), some (.int (p : Nat)), some (.int (x / 4096)), some (.int (x % 4096)), some (.int ((x % 4096).fdiv 512)), some (.int (((x % 4096).fdiv 64).fmod 8)), some (.int (((x % 4096).fdiv 8).fmod 8)), some (.int ((x % 4096).fmod 8)), none, none, none], ?_, ?_⟩
    · refine ⟨_, rfl, _, _, rfl, rfl, ⟨by decide, by decide⟩, _, rfl, _, _, rfl, rfl, ⟨by decide, by decide⟩, _, _, rfl, rfl, (show (8 : Int) ≠ 0 by decide), _, rfl, _, _, rfl, rfl, ⟨by decide, by decide⟩, _, _, rfl, rfl, (show (8 : Int) ≠ 0 by decide), _, rfl, _, _, rfl, rfl, (show (8 : Int) ≠ 0 by decide), line5 (by simp), fun p4 hp4 => ?_⟩
      exact ⟨p4, _, rfl, SqT.of upd_same, rfl, _, _, rfl, _, _, rfl, _, _, rfl, _, _, rfl, rfl, Same.trans s1 (Same.add hp4), rfl⟩
    · rintro σ H2 ⟨s2, rfl⟩
      have dv : ∀ (y k : Int), 0 ≤ k → y.fdiv k = y / k := fun y k h => Int.fdiv_eq_ediv_of_nonneg y h
      have md : ∀ (y k : Int), 0 ≤ k → y.fmod k = y % k := fun y k h => Int.fmod_eq_emod_of_nonneg y h
      rw [dv _ 512 (by decide), dv _ 64 (by decide), dv _ 8 (by decide), md _ 8 (by decide), md _ 8 (by decide), md _ 8 (by decide)]
      have m64 := md (x % 4096) 64 (by decide)
      have m512 := md (x % 4096) 512 (by decide)
      have m32 := md (x % 4096) 32 (by decide)
      have hno : ∀ {d : De}, IsAt ws p d → (∃ y, d.words p = [x, y] ∧ ws[p + 1]? = some y) ∨ d.words p = [x] := fun h => at_words h hx
      refine ⟨_, rfl, rfl, _, rfl, ?_⟩
      by_cases c0 : x / 4096 = 0
      · rw [decide_eq_true (congrArg V.int c0)]
        have nope : (0 < x % 4096 % 64 ∨ x % 4096 / 512 = 7 ∨ (x % 4096 / 512 < 3 ∧ 0 < x % 4096 / 64 % 8)) → ∀ d, ¬ IsAt ws p d := fun hc d hd => by
          rcases at_form hd hx with ⟨k, h⟩ | ⟨k, b, h⟩ | h | ⟨b, n, h⟩ | h | ⟨k, g, h1, h2, h3, h4⟩ | ⟨k, h⟩ | ⟨g, h2, h3, h4⟩ | h <;> omega
        obtain ⟨k, hk⟩ : ∃ k : Nat, x % 4096 / 512 = (k : Int) := ⟨(x % 4096 / 512).toNat, by omega⟩
        have k8 : k < 8 := by omega
        obtain ⟨na1, na2, na3⟩ := none_at k k8
        rw [hk]
        refine iteT ⟨rfl, fun p1 H3 hp1 s3 e3 => ⟨line5 (by simp), fun p2 hp2 => ?_⟩⟩
        have s4 : Same H3 (upd H3 p2 (.lst [.str "none"])) := Same.add hp2
        have e4 : (upd H3 p2 (.lst [.str "none"])) p2 = some (.lst [.str "none"]) := upd_same
        generalize upd H3 p2 (.lst [.str "none"]) = H4 at s4 e4 ⊢
        refine ⟨_, _, _, _, rfl, rfl, s4 _ _ e3, e4, line5 (by decide), fun p3 hp3 => ?_⟩
        rw [show SG.map V.str ++ [.str "none"] = (SG ++ (["none"] : List Str)).map V.str from rfl]
        have s5 : Same H4 (upd H4 p3 (.lst ((SG ++ (["none"] : List Str)).map V.str))) := Same.add hp3
        have e5 : (upd H4 p3 (.lst ((SG ++ (["none"] : List Str)).map V.str))) p3 = some (.lst ((SG ++ (["none"] : List Str)).map V.str)) := upd_same
        generalize upd H4 p3 (.lst ((SG ++ (["none"] : List Str)).map V.str)) = H5 at s5 e5 ⊢
        have s25 := Same.trans s2 (Same.trans s3 (Same.trans s4 s5))
        refine ⟨_, rfl, _, _, _, _, rfl, rfl, SqL.of e5, atI_nat na1, ?_⟩
        refine ⟨_, rfl, _, _, rfl, rfl, (show (64 : Int) ≠ 0 by decide), _, _, rfl, rfl, _, rfl, ?_⟩
        by_cases z1 : 0 < x % 4096 % 64
        · rw [decide_eq_true (show 0 < (x % 4096).fmod 64 by rw [m64]; exact z1)]
          exact iteT (q2 (nope (.inl z1)) H5 s25)
        rw [decide_eq_false (show ¬ 0 < (x % 4096).fmod 64 by rw [m64]; exact z1)]
        refine iteF ⟨_, rfl, rfl, _, rfl, ?_⟩
        by_cases k7 : k = 7
        · rw [decide_eq_true (congrArg V.str (na2.mpr k7))]
          exact iteT (q2 (nope (.inr (.inl (by omega)))) H5 s25)
        rw [decide_eq_false (fun z => k7 (na2.mp (V.str.inj z)))]
        have en : nm (SG ++ (["none"] : List Str)) k = nm SG k := na3 (by omega)
        rw [en]
        refine iteF ⟨_, rfl, _, _, rfl, rfl, _, rfl, ?_⟩
        by_cases k3 : (k : Int) < 3
        · rw [decide_eq_true k3]
          refine iteT ⟨_, rfl, _, _, rfl, rfl, _, rfl, ?_⟩
          by_cases z2 : 0 < x % 4096 / 64 % 8
          · rw [decide_eq_true z2]
            exact iteT (q2 (nope (.inr (.inr ⟨by omega, z2⟩))) H5 s25)
          rw [decide_eq_false z2]
          refine iteF ⟨_, rfl, line5 (by simp), fun p6 hp6 => ?_⟩
          have s6 : Same H5 (upd H5 p6 (.tup [.str (nm SG k)])) := Same.add hp6
          have e6 : (upd H5 p6 (.tup [.str (nm SG k)])) p6 = some (.tup [.str (nm SG k)]) := upd_same
          generalize upd H5 p6 (.tup [.str (nm SG k)]) = H6 at s6 e6 ⊢
          refine ⟨_, rfl, _, _, rfl, rfl, _, rfl, ?_⟩
          rw [decide_eq_true k3]
          refine iteT ⟨line5 (by simp), fun p7 hp7 => ?_⟩
          have s7 : Same H6 (upd H6 p7 (.tup [])) := Same.add hp7
          have e7 : (upd H6 p7 (.tup [])) p7 = some (.tup []) := upd_same
          generalize upd H6 p7 (.tup []) = H7 at s7 e7 ⊢
          refine rcat (SqT.of (s7 _ _ e6)) (SqT.of e7) (by simp) fun pd H8 s8 hpd => ⟨line5 (by simp), fun r hr8 => ?_⟩
          exact q1 (.sgl k) r pd _ (is1 hx (show k < 3 by omega) True.intro (congrArg (fun z => [z]) (show (k : Int) * 512 = x by omega))) (Same.trans s25 (Same.trans s6 (Same.trans s7 (Same.trans s8 (Same.add hr8))))) (Same.tup (Same.add hr8) hpd) (SqT.of upd_same)
        rw [decide_eq_false k3]
        refine iteF ⟨_, rfl, line5 (by simp), fun p6 hp6 => ?_⟩
        have s6 : Same H5 (upd H5 p6 (.tup [.str (nm SG k)])) := Same.add hp6
        have e6 : (upd H5 p6 (.tup [.str (nm SG k)])) p6 = some (.tup [.str (nm SG k)]) := upd_same
        generalize upd H5 p6 (.tup [.str (nm SG k)]) = H6 at s6 e6 ⊢
        refine ⟨_, rfl, _, _, rfl, rfl, _, rfl, ?_⟩
        rw [decide_eq_false k3]
        refine iteF ⟨_, rfl, line5 (by simp), fun p7 hp7 => ?_⟩
        have s7 : Same H6 (upd H6 p7 (.tup [.int (x % 4096 / 64 % 8)])) := Same.add hp7
        have e7 : (upd H6 p7 (.tup [.int (x % 4096 / 64 % 8)])) p7 = some (.tup [.int (x % 4096 / 64 % 8)]) := upd_same
        generalize upd H6 p7 (.tup [.int (x % 4096 / 64 % 8)]) = H7 at s7 e7 ⊢
        refine rcat (SqT.of (s7 _ _ e6)) (SqT.of e7) (by simp) fun pd H8 s8 hpd => ⟨line5 (by simp), fun r hr8 => ?_⟩
        exact q1 (.reg k (x % 4096 / 64 % 8)) r pd _ (is1 hx ⟨by omega, by omega, by unfold r3; omega⟩ True.intro (congrArg (fun z => [z]) (show (k : Int) * 512 + x % 4096 / 64 % 8 * 64 = x by omega))) (Same.trans s25 (Same.trans s6 (Same.trans s7 (Same.trans s8 (Same.add hr8))))) (Same.tup (Same.add hr8) hpd) (SqT.of upd_same)
      rw [decide_eq_false (fun z => c0 (V.int.inj z))]
      refine iteF ⟨_, rfl, rfl, _, rfl, ?_⟩
      by_cases c1 : x / 4096 = 1
      · rw [decide_eq_true (congrArg V.int c1)]
        obtain ⟨k, hk⟩ : ∃ k : Nat, x % 4096 % 8 = (k : Int) := ⟨(x % 4096 % 8).toNat, by omega⟩
        have k8 : k < 8 := by omega
        have hat : (SM.map V.str)[k]? = some (.str (nm SM k)) := by
          rw [List.getElem?_map, (sm_at k k8).1]
          rfl
        rw [hk]
        refine iteT ⟨rfl, fun p1 H3 hp1 s3 e3 => ⟨_, rfl, _, _, _, _, rfl, rfl, SqL.of e3, atI_nat hat, _, rfl, _, rfl, _, rfl, line5 (by simp), fun pd hpd => ?_⟩⟩
        have s4 : Same H3 (upd H3 pd (.tup [.str (nm SM k), .int (x % 4096 / 512), .int (x % 4096 / 64 % 8), .int (x % 4096 / 8 % 8)])) := Same.add hpd
        have e4 : (upd H3 pd (.tup [.str (nm SM k), .int (x % 4096 / 512), .int (x % 4096 / 64 % 8), .int (x % 4096 / 8 % 8)])) pd = some (.tup [.str (nm SM k), .int (x % 4096 / 512), .int (x % 4096 / 64 % 8), .int (x % 4096 / 8 % 8)]) := upd_same
        generalize upd H3 pd (.tup [.str (nm SM k), .int (x % 4096 / 512), .int (x % 4096 / 64 % 8), .int (x % 4096 / 8 % 8)]) = H4 at s4 e4 ⊢
        refine ⟨line5 (by simp), fun r hr8 => ?_⟩
        exact q1 (.sum k (x % 4096 / 512) (x % 4096 / 64 % 8) (x % 4096 / 8 % 8)) r pd _ (is1 hx ⟨k8, by unfold r3; omega, by unfold r3; omega, by unfold r3; omega⟩ True.intro (congrArg (fun z => [z]) (show 4096 + x % 4096 / 512 * 512 + x % 4096 / 64 % 8 * 64 + x % 4096 / 8 % 8 * 8 + (k : Int) = x by omega))) (Same.trans s2 (Same.trans s3 (Same.trans s4 (Same.add hr8)))) (SqT.of (Same.add hr8 _ _ e4)) (SqT.of upd_same)
      rw [decide_eq_false (fun z => c1 (V.int.inj z))]
      refine iteF ⟨_, rfl, line5 (by simp), fun p5 hp5 => ?_⟩
      have s3 : Same H2 (upd H2 p5 (.tup [.int 2, .int 5, .int 6])) := Same.add hp5
      have e3 : (upd H2 p5 (.tup [.int 2, .int 5, .int 6])) p5 = some (.tup [.int 2, .int 5, .int 6]) := upd_same
      generalize upd H2 p5 (.tup [.int 2, .int 5, .int 6]) = H3 at s3 e3 ⊢
      refine ⟨_, _, rfl, .inr (SqT.of e3), rfl, rfl, _, rfl, ?_⟩
      by_cases c2 : x / 4096 = 2
      · have xc : x = 8192 + x % 4096 := by omega
        rw [c2]
        show if inV (.int 2) [.int 2, .int 5, .int 6] = true then _ else _
        rw [show inV (.int 2) [.int 2, .int 5, .int 6] = true by decide +kernel]
        refine iteT ⟨_, rfl, _, _, rfl, rfl, (show (64 : Int) ≠ 0 by decide), _, rfl, rfl, _, rfl, ?_⟩
        rw [show decide (V.int 2 = V.int 2) = true by decide +kernel]
        refine iteT ⟨_, rfl, _, _, rfl, rfl, (show (64 : Int) ≠ 0 by decide), _, _, rfl, rfl, .inr ⟨_, rfl, _, _, rfl, rfl, .inl ⟨by decide, by decide⟩, _, _, rfl, rfl, ?_⟩⟩
        refine ⟨line5 (by simp), fun pa hpa => ?_⟩
        have s4 : Same H3 (upd H3 pa (.lst [.str "plus", .str "load", .str "store"])) := Same.add hpa
        have e4 : (upd H3 pa (.lst [.str "plus", .str "load", .str "store"])) pa = some (.lst [.str "plus", .str "load", .str "store"]) := upd_same
        generalize upd H3 pa (.lst [.str "plus", .str "load", .str "store"]) = H4 at s4 e4 ⊢
        refine ⟨line5 (by simp), fun pb hpb => ?_⟩
        have s5 : Same H4 (upd H4 pb (.lst [.int 2, .int 5, .int 6])) := Same.add hpb
        have e5 : (upd H4 pb (.lst [.int 2, .int 5, .int 6])) pb = some (.lst [.int 2, .int 5, .int 6]) := upd_same
        generalize upd H4 pb (.lst [.int 2, .int 5, .int 6]) = H5 at s5 e5 ⊢
        refine ⟨.inl ⟨rfl, _, SqL.of e5⟩, _, rfl, pb, [.int 2, .int 5, .int 6], .int 2, 0, .int 2, rfl, rfl, SqL.of e5, rfl, rfl, rfl, rfl, fun m z hm hz => ?_, ?_⟩
        · have : m = 0 ∨ m = 1 := by omega
          rcases this with rfl | rfl
          · cases hz
            first | rfl | omega
          · cases hz
            first | rfl | omega
        refine ⟨_, _, _, _, rfl, rfl, SqL.of (s5 _ _ e4), atI_nat (j := 0) rfl, _, rfl, _, rfl, _, rfl, line5 (by simp), fun pd hpd => ⟨line5 (by simp), fun r hr8 => ?_⟩⟩
        have hb : -32 ≤ ((x % 4096).fmod 64 - 64 * (if decide (31 < (x % 4096).fmod 64) = true then 1 else 0)) ∧ ((x % 4096).fmod 64 - 64 * (if decide (31 < (x % 4096).fmod 64) = true then 1 else 0)) ≤ 31 ∧ ((x % 4096).fmod 64 - 64 * (if decide (31 < (x % 4096).fmod 64) = true then 1 else 0)) % 64 = x % 4096 % 64 := by
          rw [m64]
          by_cases c : 31 < x % 4096 % 64
          · rw [decide_eq_true c, if_pos rfl]
            omega
          · rw [decide_eq_false c, if_neg (by decide)]
            omega
        have s35 := Same.trans s2 (Same.trans s3 (Same.trans s4 s5))
        exact q1 (.plus (x % 4096 / 512) (x % 4096 / 64 % 8) ((x % 4096).fmod 64 - 64 * (if decide (31 < (x % 4096).fmod 64) = true then 1 else 0))) r pd _ (is1 hx ⟨by unfold r3; omega, by unfold r3; omega, hb.1, hb.2.1⟩ True.intro (congrArg (fun z => [z]) (show 8192 + x % 4096 / 512 * 512 + x % 4096 / 64 % 8 * 64 + ((x % 4096).fmod 64 - 64 * (if decide (31 < (x % 4096).fmod 64) = true then 1 else 0)) % 64 = x by rw [hb.2.2]; omega))) (Same.trans s35 (Same.trans (Same.add hpd) (Same.add hr8))) (SqT.of (Same.add hr8 _ _ upd_same)) (SqT.of upd_same)
      by_cases c5 : x / 4096 = 5
      · have xc : x = 20480 + x % 4096 := by omega
        rw [c5]
        show if inV (.int 5) [.int 2, .int 5, .int 6] = true then _ else _
        rw [show inV (.int 5) [.int 2, .int 5, .int 6] = true by decide +kernel]
        refine iteT ⟨_, rfl, _, _, rfl, rfl, (show (64 : Int) ≠ 0 by decide), _, rfl, rfl, _, rfl, ?_⟩
        rw [show decide (V.int 5 = V.int 2) = false by decide +kernel]
        refine iteF (.inr ⟨_, rfl, _, _, rfl, rfl, .inl ⟨by decide, by decide⟩, _, _, rfl, rfl, ?_⟩)
        refine ⟨line5 (by simp), fun pa hpa => ?_⟩
        have s4 : Same H3 (upd H3 pa (.lst [.str "plus", .str "load", .str "store"])) := Same.add hpa
        have e4 : (upd H3 pa (.lst [.str "plus", .str "load", .str "store"])) pa = some (.lst [.str "plus", .str "load", .str "store"]) := upd_same
        generalize upd H3 pa (.lst [.str "plus", .str "load", .str "store"]) = H4 at s4 e4 ⊢
        refine ⟨line5 (by simp), fun pb hpb => ?_⟩
        have s5 : Same H4 (upd H4 pb (.lst [.int 2, .int 5, .int 6])) := Same.add hpb
        have e5 : (upd H4 pb (.lst [.int 2, .int 5, .int 6])) pb = some (.lst [.int 2, .int 5, .int 6]) := upd_same
        generalize upd H4 pb (.lst [.int 2, .int 5, .int 6]) = H5 at s5 e5 ⊢
        refine ⟨.inl ⟨rfl, _, SqL.of e5⟩, _, rfl, pb, [.int 2, .int 5, .int 6], .int 5, 1, .int 5, rfl, rfl, SqL.of e5, rfl, rfl, rfl, rfl, fun m z hm hz => ?_, ?_⟩
        · have : m = 0 ∨ m = 1 := by omega
          rcases this with rfl | rfl
          · cases hz
            first | rfl | omega
          · cases hz
            first | rfl | omega
        refine ⟨_, _, _, _, rfl, rfl, SqL.of (s5 _ _ e4), atI_nat (j := 1) rfl, _, rfl, _, rfl, _, rfl, line5 (by simp), fun pd hpd => ⟨line5 (by simp), fun r hr8 => ?_⟩⟩
        have hb : 0 ≤ ((x % 4096).fmod 64 - 64 * (if false = true then 1 else 0)) ∧ ((x % 4096).fmod 64 - 64 * (if false = true then 1 else 0)) ≤ 63 ∧ ((x % 4096).fmod 64 - 64 * (if false = true then 1 else 0)) = x % 4096 % 64 := by
          rw [m64, if_neg (by decide)]
          omega
        have s35 := Same.trans s2 (Same.trans s3 (Same.trans s4 s5))
        exact q1 (.load (x % 4096 / 512) (x % 4096 / 64 % 8) ((x % 4096).fmod 64 - 64 * (if false = true then 1 else 0))) r pd _ (is1 hx ⟨by unfold r3; omega, by unfold r3; omega, hb.1, hb.2.1⟩ True.intro (congrArg (fun z => [z]) (show 20480 + x % 4096 / 512 * 512 + x % 4096 / 64 % 8 * 64 + ((x % 4096).fmod 64 - 64 * (if false = true then 1 else 0)) = x by rw [hb.2.2]; omega))) (Same.trans s35 (Same.trans (Same.add hpd) (Same.add hr8))) (SqT.of (Same.add hr8 _ _ upd_same)) (SqT.of upd_same)
      by_cases c6 : x / 4096 = 6
      · have xc : x = 24576 + x % 4096 := by omega
        rw [c6]
        show if inV (.int 6) [.int 2, .int 5, .int 6] = true then _ else _
        rw [show inV (.int 6) [.int 2, .int 5, .int 6] = true by decide +kernel]
        refine iteT ⟨_, rfl, _, _, rfl, rfl, (show (64 : Int) ≠ 0 by decide), _, rfl, rfl, _, rfl, ?_⟩
        rw [show decide (V.int 6 = V.int 2) = false by decide +kernel]
        refine iteF (.inr ⟨_, rfl, _, _, rfl, rfl, .inl ⟨by decide, by decide⟩, _, _, rfl, rfl, ?_⟩)
        refine ⟨line5 (by simp), fun pa hpa => ?_⟩
        have s4 : Same H3 (upd H3 pa (.lst [.str "plus", .str "load", .str "store"])) := Same.add hpa
        have e4 : (upd H3 pa (.lst [.str "plus", .str "load", .str "store"])) pa = some (.lst [.str "plus", .str "load", .str "store"]) := upd_same
        generalize upd H3 pa (.lst [.str "plus", .str "load", .str "store"]) = H4 at s4 e4 ⊢
        refine ⟨line5 (by simp), fun pb hpb => ?_⟩
        have s5 : Same H4 (upd H4 pb (.lst [.int 2, .int 5, .int 6])) := Same.add hpb
        have e5 : (upd H4 pb (.lst [.int 2, .int 5, .int 6])) pb = some (.lst [.int 2, .int 5, .int 6]) := upd_same
        generalize upd H4 pb (.lst [.int 2, .int 5, .int 6]) = H5 at s5 e5 ⊢
        refine ⟨.inl ⟨rfl, _, SqL.of e5⟩, _, rfl, pb, [.int 2, .int 5, .int 6], .int 6, 2, .int 6, rfl, rfl, SqL.of e5, rfl, rfl, rfl, rfl, fun m z hm hz => ?_, ?_⟩
        · have : m = 0 ∨ m = 1 := by omega
          rcases this with rfl | rfl
          · cases hz
            first | rfl | omega
          · cases hz
            first | rfl | omega
        refine ⟨_, _, _, _, rfl, rfl, SqL.of (s5 _ _ e4), atI_nat (j := 2) rfl, _, rfl, _, rfl, _, rfl, line5 (by simp), fun pd hpd => ⟨line5 (by simp), fun r hr8 => ?_⟩⟩
        have hb : 0 ≤ ((x % 4096).fmod 64 - 64 * (if false = true then 1 else 0)) ∧ ((x % 4096).fmod 64 - 64 * (if false = true then 1 else 0)) ≤ 63 ∧ ((x % 4096).fmod 64 - 64 * (if false = true then 1 else 0)) = x % 4096 % 64 := by
          rw [m64, if_neg (by decide)]
          omega
        have s35 := Same.trans s2 (Same.trans s3 (Same.trans s4 s5))
        exact q1 (.store (x % 4096 / 512) (x % 4096 / 64 % 8) ((x % 4096).fmod 64 - 64 * (if false = true then 1 else 0))) r pd _ (is1 hx ⟨by unfold r3; omega, by unfold r3; omega, hb.1, hb.2.1⟩ True.intro (congrArg (fun z => [z]) (show 24576 + x % 4096 / 512 * 512 + x % 4096 / 64 % 8 * 64 + ((x % 4096).fmod 64 - 64 * (if false = true then 1 else 0)) = x by rw [hb.2.2]; omega))) (Same.trans s35 (Same.trans (Same.add hpd) (Same.add hr8))) (SqT.of (Same.add hr8 _ _ upd_same)) (SqT.of upd_same)
      have ni : inV (.int (x / 4096)) [.int 2, .int 5, .int 6] = false := by
        show (((2 : Int) == x / 4096) || (((5 : Int) == x / 4096) || (((6 : Int) == x / 4096) || false))) = false
        rw [beq_eq_false_iff_ne.mpr (Ne.symm c2), beq_eq_false_iff_ne.mpr (Ne.symm c5), beq_eq_false_iff_ne.mpr (Ne.symm c6)]
        rfl
      show if inV (.int (x / 4096)) [.int 2, .int 5, .int 6] = true then _ else _
      rw [ni]
      refine iteF ⟨fun σ H' => Same H H' ∧ σ = [some (.ref a), some (.int (p : Nat)), some (.int (x / 4096)), some (.int (x % 4096)), some (.int (x % 4096 / 512)), some (.int (x % 4096 / 64 % 8)), some (.int (x % 4096 / 8 % 8)), some (.int (x % 4096 % 8)), none, none, none] ∧ x / 4096 ≠ 3 ∧ ¬ (x / 4096 = 4 ∧ x % 4096 % 512 < 128), ?_, ?_⟩
      · refine ⟨_, rfl, rfl, _, rfl, ?_⟩
        by_cases c3 : x / 4096 = 3
        · have xc : x = 12288 + x % 4096 := by omega
          rw [c3]
          rw [show decide (V.int 3 = V.int 3) = true by decide +kernel]
          refine iteT ⟨line5 (by simp), fun pa hpa => ?_⟩
          have s4 : Same H3 (upd H3 pa (.lst [.str "set", .str "high"])) := Same.add hpa
          have e4 : (upd H3 pa (.lst [.str "set", .str "high"])) pa = some (.lst [.str "set", .str "high"]) := upd_same
          generalize upd H3 pa (.lst [.str "set", .str "high"]) = H4 at s4 e4 ⊢
          refine ⟨_, rfl, _, _, rfl, rfl, _, _, _, _, rfl, rfl, SqL.of e4, (atI_nat (j := 0) rfl : atI [V.str "set", V.str "high"] (3 - 3) = some (V.str "set")), _, rfl, _, rfl, _, _, rfl, rfl, (show (512 : Int) ≠ 0 by decide), line5 (by simp), fun pd hpd => ⟨line5 (by simp), fun r hr8 => ?_⟩⟩
          exact q1 (.set (x % 4096 / 512) ((x % 4096).fmod 512)) r pd _ (is1 hx ⟨by unfold r3; omega, by omega, by omega⟩ True.intro (congrArg (fun z => [z]) (show 12288 + x % 4096 / 512 * 512 + (x % 4096).fmod 512 = x by omega))) (Same.trans s2 (Same.trans s3 (Same.trans s4 (Same.trans (Same.add hpd) (Same.add hr8))))) (SqT.of (Same.add hr8 _ _ upd_same)) (SqT.of upd_same)
        rw [decide_eq_false (fun z => c3 (V.int.inj z))]
        refine iteF ⟨_, rfl, rfl, _, rfl, ?_⟩
        by_cases c4 : x / 4096 = 4
        · have xc : x = 16384 + x % 4096 := by omega
          rw [decide_eq_true (congrArg V.int c4)]
          refine iteT ⟨_, rfl, _, _, rfl, rfl, (show (512 : Int) ≠ 0 by decide), _, _, rfl, rfl, _, rfl, ?_⟩
          by_cases c8 : (x % 4096).fmod 512 < 128
          · rw [decide_eq_true c8, c4]
            refine iteT ⟨line5 (by simp), fun pa hpa => ?_⟩
            have s4 : Same H3 (upd H3 pa (.lst [.str "set", .str "high"])) := Same.add hpa
            have e4 : (upd H3 pa (.lst [.str "set", .str "high"])) pa = some (.lst [.str "set", .str "high"]) := upd_same
            generalize upd H3 pa (.lst [.str "set", .str "high"]) = H4 at s4 e4 ⊢
            refine ⟨_, rfl, _, _, rfl, rfl, _, _, _, _, rfl, rfl, SqL.of e4, (atI_nat (j := 1) rfl : atI [V.str "set", V.str "high"] (4 - 3) = some (V.str "high")), _, rfl, _, rfl, _, _, rfl, rfl, (show (512 : Int) ≠ 0 by decide), line5 (by simp), fun pd hpd => ⟨line5 (by simp), fun r hr8 => ?_⟩⟩
            exact q1 (.high (x % 4096 / 512) ((x % 4096).fmod 512)) r pd _ (is1 hx ⟨by unfold r3; omega, by omega, by omega⟩ True.intro (congrArg (fun z => [z]) (show 16384 + x % 4096 / 512 * 512 + (x % 4096).fmod 512 = x by omega))) (Same.trans s2 (Same.trans s3 (Same.trans s4 (Same.trans (Same.add hpd) (Same.add hr8))))) (SqT.of (Same.add hr8 _ _ upd_same)) (SqT.of upd_same)
          rw [decide_eq_false c8]
          exact iteF ⟨Same.trans s2 s3, rfl, c3, fun z => c8 (by rw [m512]; exact z.2)⟩
        rw [decide_eq_false (fun z => c4 (V.int.inj z))]
        exact iteF ⟨Same.trans s2 s3, rfl, c3, fun z => c4 z.1⟩
      clear s2 s3 e3 hp5
      rintro σ H4 ⟨s4, rfl, c3, c4⟩
      refine ⟨_, rfl, _, _, rfl, rfl, _, rfl, _, _, rfl, rfl, (show (32 : Int) ≠ 0 by decide), _, _, rfl, rfl, _, rfl, _, _, rfl, rfl, (show (32 : Int) ≠ 0 by decide), _, _, rfl, rfl, .inr ⟨_, rfl, _, _, rfl, rfl, .inl ⟨by decide, by decide⟩, _, _, rfl, rfl, ?_⟩⟩
      have hn : near ((p : Int) + 1 + (x % 4096).fmod 32 - 32 * (if decide (15 < (x % 4096).fmod 32) = true then 1 else 0)) p ∧ (((p : Int) + 1 + (x % 4096).fmod 32 - 32 * (if decide (15 < (x % 4096).fmod 32) = true then 1 else 0)) - (p : Int) - 1) % 32 = x % 32 := by
        unfold near
        rw [m32]
        by_cases c : 15 < x % 4096 % 32
        · rw [decide_eq_true c, if_pos rfl]
          omega
        · rw [decide_eq_false c, if_neg (by decide)]
          omega
      have hn2 : -16 ≤ ((p : Int) + 1 + (x % 4096).fmod 32 - 32 * (if decide (15 < (x % 4096).fmod 32) = true then 1 else 0)) - (p : Int) - 1 ∧ ((p : Int) + 1 + (x % 4096).fmod 32 - 32 * (if decide (15 < (x % 4096).fmod 32) = true then 1 else 0)) - (p : Int) - 1 ≤ 15 := hn.1
      obtain ⟨k, hk⟩ : ∃ k : Nat, x % 4096 / 512 = (k : Int) := ⟨(x % 4096 / 512).toNat, by omega⟩
      have hat : k < 7 → (TM.map V.str)[k]? = some (.str (nm TM k)) := fun h => by
        rw [List.getElem?_map, (tm_at k h).1]
        rfl
      refine ⟨fun σ H' => Same H H' ∧ σ = [some (.ref a), some (.int (p : Nat)), some (.int (x / 4096)), some (.int (x % 4096)), some (.int (x % 4096 / 512)), some (.int (x % 4096 / 64 % 8)), some (.int (x % 4096 / 8 % 8)), some (.int (x % 4096 % 8)), none, none, some (.int ((p : Int) + 1 + (x % 4096).fmod 32 - 32 * (if decide (15 < (x % 4096).fmod 32) = true then 1 else 0)))] ∧ ¬ (x / 4096 = 7 ∧ x % 4096 / 512 < 7 ∧ x % 4096 % 512 < 32 ∧ 0 ≤ ((p : Int) + 1 + (x % 4096).fmod 32 - 32 * (if decide (15 < (x % 4096).fmod 32) = true then 1 else 0))), ?_, ?_⟩
      · refine ⟨_, rfl, rfl, _, rfl, ?_⟩
        by_cases c7 : x / 4096 = 7
        · rw [decide_eq_true (congrArg V.int c7)]
          refine iteT ⟨_, rfl, _, _, rfl, rfl, _, rfl, ?_⟩
          by_cases d7 : x % 4096 / 512 < 7
          · rw [decide_eq_true d7]
            refine iteT ⟨_, rfl, _, _, rfl, rfl, (show (512 : Int) ≠ 0 by decide), _, _, rfl, rfl, _, rfl, ?_⟩
            by_cases e7 : (x % 4096).fmod 512 < 32
            · rw [decide_eq_true e7]
              refine iteT ⟨_, rfl, _, _, rfl, rfl, _, rfl, ?_⟩
              by_cases g7 : 0 ≤ ((p : Int) + 1 + (x % 4096).fmod 32 - 32 * (if decide (15 < (x % 4096).fmod 32) = true then 1 else 0))
              · show if decide (0 ≤ ((p : Int) + 1 + (x % 4096).fmod 32 - 32 * (if decide (15 < (x % 4096).fmod 32) = true then 1 else 0))) = true then _ else _
                rw [decide_eq_true g7, hk]
                refine iteT ⟨rfl, fun pt H5 hpt s5 e5 => ⟨_, rfl, _, _, _, _, rfl, rfl, SqL.of e5, atI_nat (hat (by omega)), _, rfl, line5 (by simp), fun pd hpd => ⟨line5 (by simp), fun r hr8 => ?_⟩⟩⟩
                exact q1 (.jump k ((p : Int) + 1 + (x % 4096).fmod 32 - 32 * (if decide (15 < (x % 4096).fmod 32) = true then 1 else 0)) false) r pd _ (is1 hx ⟨by omega, by omega, by omega⟩ hn.1 (congrArg (fun z => [z]) (show 28672 + (k : Int) * 512 + (((p : Int) + 1 + (x % 4096).fmod 32 - 32 * (if decide (15 < (x % 4096).fmod 32) = true then 1 else 0)) - (p : Int) - 1) % 32 = x by rw [hn.2]; omega))) (Same.trans s4 (Same.trans s5 (Same.trans (Same.add hpd) (Same.add hr8)))) (SqT.of (Same.add hr8 _ _ upd_same)) (SqT.of upd_same)
              · show if decide (0 ≤ ((p : Int) + 1 + (x % 4096).fmod 32 - 32 * (if decide (15 < (x % 4096).fmod 32) = true then 1 else 0))) = true then _ else _
                rw [decide_eq_false g7]
                exact iteF ⟨s4, rfl, fun z => g7 z.2.2.2⟩
            · rw [decide_eq_false e7]
              exact iteF ⟨s4, rfl, fun z => e7 (by rw [m512]; exact z.2.2.1)⟩
          · rw [decide_eq_false d7]
            exact iteF ⟨s4, rfl, fun z => d7 z.2.1⟩
        · rw [decide_eq_false (fun z => c7 (V.int.inj z))]
          exact iteF ⟨s4, rfl, fun z => c7 z.1⟩
      clear s4
      rintro σ H5 ⟨s5, rfl, c7⟩
      refine ⟨fun σ H' => Same H H' ∧ σ = [some (.ref a), some (.int (p : Nat)), some (.int (x / 4096)), some (.int (x % 4096)), some (.int (x % 4096 / 512)), some (.int (x % 4096 / 64 % 8)), some (.int (x % 4096 / 8 % 8)), some (.int (x % 4096 % 8)), none, none, some (.int ((p : Int) + 1 + (x % 4096).fmod 32 - 32 * (if decide (15 < (x % 4096).fmod 32) = true then 1 else 0)))] ∧ ¬ (x / 4096 = 9 ∧ x % 4096 < 32 ∧ 0 ≤ ((p : Int) + 1 + (x % 4096).fmod 32 - 32 * (if decide (15 < (x % 4096).fmod 32) = true then 1 else 0))), ?_, ?_⟩
      · refine ⟨_, rfl, rfl, _, rfl, ?_⟩
        by_cases c9 : x / 4096 = 9
        · rw [decide_eq_true (congrArg V.int c9)]
          refine iteT ⟨_, rfl, _, _, rfl, rfl, _, rfl, ?_⟩
          by_cases d9 : x % 4096 < 32
          · rw [decide_eq_true d9]
            refine iteT ⟨_, rfl, _, _, rfl, rfl, _, rfl, ?_⟩
            by_cases g9 : 0 ≤ ((p : Int) + 1 + (x % 4096).fmod 32 - 32 * (if decide (15 < (x % 4096).fmod 32) = true then 1 else 0))
            · show if decide (0 ≤ ((p : Int) + 1 + (x % 4096).fmod 32 - 32 * (if decide (15 < (x % 4096).fmod 32) = true then 1 else 0))) = true then _ else _
              rw [decide_eq_true g9]
              refine iteT ⟨_, rfl, line5 (by simp), fun pd hpd => ⟨line5 (by simp), fun r hr8 => ?_⟩⟩
              exact q1 (.call ((p : Int) + 1 + (x % 4096).fmod 32 - 32 * (if decide (15 < (x % 4096).fmod 32) = true then 1 else 0)) false) r pd _ (is1 hx ⟨by omega, by omega⟩ hn.1 (congrArg (fun z => [z]) (show 36864 + (((p : Int) + 1 + (x % 4096).fmod 32 - 32 * (if decide (15 < (x % 4096).fmod 32) = true then 1 else 0)) - (p : Int) - 1) % 32 = x by rw [hn.2]; omega))) (Same.trans s5 (Same.trans (Same.add hpd) (Same.add hr8))) (SqT.of (Same.add hr8 _ _ upd_same)) (SqT.of upd_same)
            · show if decide (0 ≤ ((p : Int) + 1 + (x % 4096).fmod 32 - 32 * (if decide (15 < (x % 4096).fmod 32) = true then 1 else 0))) = true then _ else _
              rw [decide_eq_false g9]
              exact iteF ⟨s5, rfl, fun z => g9 z.2.2⟩
          · rw [decide_eq_false d9]
            exact iteF ⟨s5, rfl, fun z => d9 z.2.1⟩
        · rw [decide_eq_false (fun z => c9 (V.int.inj z))]
          exact iteF ⟨s5, rfl, fun z => c9 z.1⟩
      clear s5
      rintro σ H6 ⟨s6, rfl, c9⟩
      have hS6 := seq_same s6 hS
      have hlenv : LenV K (.ref a) H6 (vInts ws).length := by
        rcases hS6 with h | h
        · exact .inl ⟨_, h, rfl⟩
        · exact .inr ⟨_, h, rfl⟩
      refine ⟨_, rfl, _, _, rfl, rfl, _, rfl, _, _, rfl, hlenv, rfl, _, rfl, ?_⟩
      have ell : (vInts ws).length = ws.length := List.length_map ..
      have nope : (∀ k : Nat, k < 7 → x = 32768 + k * 512 → p + 1 < ws.length → False) → (x = 40960 → p + 1 < ws.length → False) → ∀ d, ¬ IsAt ws p d := fun h1 h2 => at_none hx c0 c1 c2 c3 c4 c5 c6 hn.1 hn.2 c7 c9 h1 h2
      by_cases cl : (p : Int) + 1 = ((vInts ws).length : Nat)
      · rw [decide_eq_true (congrArg V.int cl)]
        have hle : ¬ p + 1 < ws.length := by rw [ell] at cl; clear hn hn2 c7 c9; omega
        exact iteT (q2 (nope (fun k _ _ h => hle h) (fun _ h => hle h)) H6 s6)
      rw [decide_eq_false (fun z => cl (V.int.inj z))]
      have hp1 : p + 1 < ws.length := by rw [ell] at cl; clear hn hn2 c7 c9 nope; omega
      have hy : ws[p + 1]? = some ws[p + 1] := List.getElem?_eq_getElem hp1
      obtain ⟨y0, y1⟩ := hw _ (List.getElem_mem hp1)
      generalize ws[p + 1] = y at hy y0 y1
      have hyv : (vInts ws)[p + 1]? = some (.int y) := by
        rw [vInts, List.getElem?_map, hy]
        rfl
      have hya : atI (vInts ws) ((p : Int) + 1) = some (.int y) := atI_nat (j := p + 1) hyv
      refine iteF ⟨fun σ H' => Same H H' ∧ σ = [some (.ref a), some (.int (p : Nat)), some (.int (x / 4096)), some (.int (x % 4096)), some (.int (x % 4096 / 512)), some (.int (x % 4096 / 64 % 8)), some (.int (x % 4096 / 8 % 8)), some (.int (x % 4096 % 8)), none, none, some (.int ((p : Int) + 1 + (x % 4096).fmod 32 - 32 * (if decide (15 < (x % 4096).fmod 32) = true then 1 else 0)))] ∧ ¬ (x / 4096 = 8 ∧ x % 4096 / 512 < 7 ∧ x % 4096 % 512 = 0), ?_, ?_⟩
      · refine ⟨_, rfl, rfl, _, rfl, ?_⟩
        by_cases c8 : x / 4096 = 8
        · rw [decide_eq_true (congrArg V.int c8)]
          refine iteT ⟨_, rfl, _, _, rfl, rfl, _, rfl, ?_⟩
          by_cases d8 : x % 4096 / 512 < 7
          · rw [decide_eq_true d8]
            refine iteT ⟨_, rfl, _, _, rfl, rfl, (show (512 : Int) ≠ 0 by decide), rfl, _, rfl, ?_⟩
            by_cases e8 : (x % 4096).fmod 512 = 0
            · rw [decide_eq_true (congrArg V.int e8), hk]
              refine iteT ⟨rfl, fun pt H7 hpt s7 e7 => ⟨_, rfl, _, _, _, _, rfl, rfl, SqL.of e7, atI_nat (hat (by omega)), _, rfl, _, rfl, _, _, rfl, rfl, rix_seq (seq_same s7 hS6) hya ⟨line5 (by simp), fun pd hpd => ⟨line5 (by simp), fun r hr8 => ?_⟩⟩⟩⟩
              exact q1 (.jump k y true) r pd _ (is2 hx hy ⟨by omega, by omega, by omega⟩ True.intro (congrArg (fun z => [z, y]) (show 32768 + (k : Int) * 512 = x by omega))) (Same.trans s6 (Same.trans s7 (Same.trans (Same.add hpd) (Same.add hr8)))) (SqT.of (Same.add hr8 _ _ upd_same)) (SqT.of upd_same)
            · rw [decide_eq_false (fun z => e8 (V.int.inj z))]
              exact iteF ⟨s6, rfl, fun z => e8 (by rw [m512]; exact z.2.2)⟩
          · rw [decide_eq_false d8]
            exact iteF ⟨s6, rfl, fun z => d8 z.2.1⟩
        · rw [decide_eq_false (fun z => c8 (V.int.inj z))]
          exact iteF ⟨s6, rfl, fun z => c8 z.1⟩
      clear s6 hS6 hlenv
      rintro σ H7 ⟨s7, rfl, c8⟩
      have none1 : ¬ (x / 4096 = 10 ∧ x % 4096 = 0) → ∀ d, ¬ IsAt ws p d := fun hc => nope (fun k h1 h2 _ => c8 ⟨by clear hn hn2 c7 c9; omega, by clear hn hn2 c7 c9; omega, by clear hn hn2 c7 c9; omega⟩) (fun h _ => hc ⟨by clear hn hn2 c7 c9; omega, by clear hn hn2 c7 c9; omega⟩)
      refine ⟨_, rfl, rfl, _, rfl, ?_⟩
      by_cases ca : x / 4096 = 10
      · rw [decide_eq_true (congrArg V.int ca)]
        refine iteT ⟨_, rfl, rfl, _, rfl, ?_⟩
        by_cases cb : x % 4096 = 0
        · rw [decide_eq_true (congrArg V.int cb)]
          refine iteT ⟨_, rfl, _, rfl, _, _, rfl, rfl, rix_seq (seq_same s7 hS) hya ⟨line5 (by simp), fun pd hpd => ⟨line5 (by simp), fun r hr8 => ?_⟩⟩⟩
          exact q1 (.call y true) r pd _ (is2 hx hy ⟨by omega, by omega⟩ True.intro (congrArg (fun z => [z, y]) (show 40960 = x by omega))) (Same.trans s7 (Same.trans (Same.add hpd) (Same.add hr8))) (SqT.of (Same.add hr8 _ _ upd_same)) (SqT.of upd_same)
        · rw [decide_eq_false (fun z => cb (V.int.inj z))]
          exact iteF (q2 (none1 fun z => cb z.2) H7 s7)
      · rw [decide_eq_false (fun z => ca (V.int.inj z))]
        exact iteF (q2 (none1 fun z => ca z.1) H7 s7)
end
end Bm
set_option maxHeartbeats 800000
namespace Bm
open PySem PySem.Spec PyProof.Rows L2
section
variable {P : Program} {w : World} {K : PySem.W.Frag} {mg : Str → Option Value} {base : Heap} {f : Addr} {fd : FuncData} {dvs : List V}
abbrev KnLat (P : Program) (w : World) (K : PySem.W.Frag) (mg : Str → Option Value) (base : Heap) : Prop := Kn P w K mg base CX0 2 "_law_deed_at" ["_law_image_here", "_law_place"] [] (spLAt K)
abbrev N__law_swept : List Str := ["_law_image_here", "_law_found", "_law_place", "_law_told", "_law_deed_here", "_law_many"]
theorem sc__law_swept : FnScope ["_law_image_here", "_law_found", "_law_place", "_law_told", "_law_deed_here", "_law_many"] ["_law_image_here"] (defScope s__law_swept) := ⟨rfl, rfl, rfl, by decide +kernel, rfl, by decide +kernel, by decide +kernel⟩
theorem ok_swept (F : FunD K "_law_swept" "_law_swept" (defArgs s__law_swept) (defBody s__law_swept) (defScope s__law_swept) dvs [] f fd) (k__law_deed_at : KnLat P w K mg base) (g_len : mg "len" = none) : FnOk P w K mg base CX0 3 f fd ["_law_image_here"] (spMet K) := by
  refine F.ok sc__law_swept (fun vs H Q E h => ?_) (fun cdv A outer s H vs Q E hr h => ?_)
  · obtain ⟨t, ws, rfl, _⟩ := h
    rfl
  · obtain ⟨t, ws, rfl, hS, hl, hw, q⟩ := h
    refine ⟨_, PSs.nox (pss_cons (ps_set (i := 1) sc__law_swept.nd rfl (Or.inl rfl) (pe_lst pa_nil))
      (pss_cons (ps_set (i := 2) sc__law_swept.nd rfl (Or.inl rfl) pe_int)
      (pss_cons (ps_while PassesOwn.never (pt_cmpR op_lt (pv 2) (pe_callB call_len rfl g_len boot_len (pa_cons (pv 0) pa_nil)) (nomark _)) (pss_cons (ps_set (i := 3) sc__law_swept.nd rfl (Or.inl rfl) (pk k__law_deed_at hr (by decide) rfl pass0 (pa_cons (pv 0) (pa_cons (pv 2) pa_nil))))
      (pss_cons (ps_asg (pe_ifExp (pt_cmpR op_notN (pv 3) pe_non (nomark _)) (pv 3) (pe_tup (pa_cons pe_non (pa_cons pe_int pa_nil)))) (pg_tup rfl (pgs_cons (pg_name (i := 4) sc__law_swept.nd rfl (Or.inl rfl)) (pgs_cons (pg_name (i := 5) sc__law_swept.nd rfl (Or.inl rfl)) pgs_nil))))
      (pss_cons (ps_expr (pe_bm PySem.F.plainAttrs_list PySem.F.slot_list_append PySem.F.type_list_append mt_append (pv 1) (pa_cons (pe_tup (pa_cons (pv 2) (pa_cons (pv 4) (pa_cons (pv 5) pa_nil)))) pa_nil)))
      (pss_one (ps_set (i := 2) sc__law_swept.nd rfl (Or.inl rfl) (pe_op op_add (pv 2) (pv 5))))))))
      (pss_one (ps_ret (pv 1)))))), ?_⟩
    refine ⟨line5 (by simp), fun D hD => ?_⟩
    have hDn : H D = none := hD
    have s1 : Same H (upd H D (.lst [])) := Same.add hD
    have e1 : (upd H D (.lst [])) D = some (.lst []) := upd_same
    generalize upd H D (.lst []) = H1 at s1 e1 ⊢
    refine while_by (fun σ G => ∃ (n : Nat) (v3 v4 v5 : Option V) (rs : List V), σ = [some (.ref t), some (.ref D), some (.int ((sw ws n).1 : Nat)), v3, v4, v5] ∧ Same H G ∧ G D = some (.lst rs) ∧ MetV K G rs (sw ws n).2) (fun σ _ => match σ with | _ :: _ :: some (.int x) :: _ => ws.length - x.toNat | _ => 0) ⟨0, none, none, none, [], rfl, s1, e1, .nil⟩ ?_ (fun σ H Q Q' m h => ?_)
    · rintro σ G ⟨n, v3, v4, v5, rs, rfl, sG, hG, hm⟩
      have el : (vInts ws).length = ws.length := List.length_map ..
      refine ⟨_, rfl, _, rfl, _, _, rfl, .inr ⟨_, Same.tup sG hS, rfl⟩, _, _, rfl, rfl, _, rfl, ?_⟩
      rw [el]
      by_cases c : (sw ws n).1 < ws.length
      · rw [decide_eq_true (show (((sw ws n).1 : Nat) : Int) < ((ws.length : Nat) : Int) by omega)]
        refine iteT ?_
        have hx := List.getElem?_eq_getElem c
        have hw2 := hw _ (List.getElem_mem c)
        have hfit := sizeO_fit c
        refine ⟨_, rfl, _, rfl, t, ws, (sw ws n).1, rfl, .inr (Same.tup sG hS), c, hw, by omega, fun d r pd G2 hd s2 hpd hr2 => ?_, fun hno G2 s2 => ?_⟩
        · have hat := atD_some hd
          have sG2 := Same.trans sG s2
          have G2D := s2 _ _ hG
          have G2s := s2
          refine ⟨_, rfl, rfl, _, rfl, ?_⟩
          show if (!decide (V.ref r = V.non)) = true then _ else _
          rw [show (!decide (V.ref r = V.non)) = true from congrArg Bool.not (decide_eq_false (by simp))]
          refine iteT ⟨_, rfl, r, _, rfl, hr2, rfl, _, _, rfl, _, _, rfl, rfl, ?_⟩
          refine ⟨_, rfl, .inl ⟨rfl, _, SqL.of G2D⟩, _, rfl, _, rfl, _, rfl, line5 (by simp), fun rr hrr => ?_⟩
          have s9 : Same G2 (upd G2 rr (.tup [V.int ((sw ws n).1 : Nat), V.ref pd, V.int (((d.words (((sw ws n).1 : Nat) : Int)).length : Nat) : Int)])) := Same.add hrr
          have e9 : (upd G2 rr (.tup [V.int ((sw ws n).1 : Nat), V.ref pd, V.int (((d.words (((sw ws n).1 : Nat) : Int)).length : Nat) : Int)])) rr = some (.tup [V.int ((sw ws n).1 : Nat), V.ref pd, V.int (((d.words (((sw ws n).1 : Nat) : Int)).length : Nat) : Int)]) := upd_same
          generalize upd G2 rr (.tup [V.int ((sw ws n).1 : Nat), V.ref pd, V.int (((d.words (((sw ws n).1 : Nat) : Int)).length : Nat) : Int)]) = G9 at s9 e9 ⊢
          refine ⟨D, rs, _, rfl, rfl, s9 _ _ G2D, ?_, ?_⟩
          · rw [hm.len]
            have := (sw_le ws n).2.1
            have := (sw_le ws n).1
            exact line_lt' (show (sw ws n).2.length < 100000 from sw_short hl c)
          refine ⟨_, rfl, _, rfl, _, _, rfl, rfl, ⟨n + 1, some (.ref r), some (.ref pd), some (.int (((d.words (((sw ws n).1 : Nat) : Int)).length : Nat) : Int)), rs ++ [.ref rr], ?_, Same.mut (Same.trans sG2 s9) hDn, upd_same, ?_⟩, ?_⟩
          · rw [sw_succ, if_pos c, hat]
            rfl
          · rw [sw_succ, if_pos c, hat]
            exact MetV.snoc (tup_put2 (s9 _ _ G2D) (SqT.of e9)) (show VD K _ (.ref pd) (some d) from ⟨pd, rfl, tup_put2 (s9 _ _ G2D) (Same.tup s9 hpd)⟩) (hm.map fun a xs h => tup_put2 (s9 _ _ G2D) (Same.tup (G2s.trans s9) h))
          · rw [hat] at hfit
            show ws.length - (((sw ws n).1 : Nat) + ((sizeO (sw ws n).1 (some d) : Nat) : Int)).toNat < ws.length - (((sw ws n).1 : Nat) : Int).toNat
            omega
        · have hat := atD_none hno
          refine ⟨_, rfl, rfl, _, rfl, ?_⟩
          show if (!decide (V.non = V.non)) = true then _ else _
          rw [show (!decide (V.non = V.non)) = false from congrArg Bool.not (decide_eq_true rfl)]
          refine iteF ⟨line5 (by simp), fun r hr => ?_⟩
          have s3 : Same G2 (upd G2 r (.tup [V.non, V.int 1])) := Same.add hr
          have e3 : (upd G2 r (.tup [V.non, V.int 1])) r = some (.tup [V.non, V.int 1]) := upd_same
          generalize upd G2 r (.tup [V.non, V.int 1]) = G3 at s3 e3 ⊢
          refine ⟨r, _, rfl, SqT.of e3, rfl, _, _, rfl, _, _, rfl, rfl, ?_⟩
          have G3s := Same.trans s2 s3
          have sG3 := Same.trans sG G3s
          have G3D := G3s _ _ hG
          refine ⟨_, rfl, .inl ⟨rfl, _, SqL.of G3D⟩, _, rfl, _, rfl, _, rfl, line5 (by simp), fun rr hrr => ?_⟩
          have s9 : Same G3 (upd G3 rr (.tup [V.int ((sw ws n).1 : Nat), V.non, V.int 1])) := Same.add hrr
          have e9 : (upd G3 rr (.tup [V.int ((sw ws n).1 : Nat), V.non, V.int 1])) rr = some (.tup [V.int ((sw ws n).1 : Nat), V.non, V.int 1]) := upd_same
          generalize upd G3 rr (.tup [V.int ((sw ws n).1 : Nat), V.non, V.int 1]) = G9 at s9 e9 ⊢
          refine ⟨D, rs, _, rfl, rfl, s9 _ _ G3D, ?_, ?_⟩
          · rw [hm.len]
            have := (sw_le ws n).2.1
            have := (sw_le ws n).1
            exact line_lt' (show (sw ws n).2.length < 100000 from sw_short hl c)
          refine ⟨_, rfl, _, rfl, _, _, rfl, rfl, ⟨n + 1, some .non, some .non, some (.int 1), rs ++ [.ref rr], ?_, Same.mut (Same.trans sG3 s9) hDn, upd_same, ?_⟩, ?_⟩
          · rw [sw_succ, if_pos c, hat]
            rfl
          · rw [sw_succ, if_pos c, hat]
            exact MetV.snoc (tup_put2 (s9 _ _ G3D) (SqT.of e9)) (show VD K _ .non none from rfl) (hm.map fun a xs h => tup_put2 (s9 _ _ G3D) (Same.tup (G3s.trans s9) h))
          · rw [hat] at hfit
            show ws.length - (((sw ws n).1 : Nat) + ((sizeO (sw ws n).1 none : Nat) : Int)).toNat < ws.length - (((sw ws n).1 : Nat) : Int).toNat
            omega
      · rw [decide_eq_false (show ¬ (((sw ws n).1 : Nat) : Int) < ((ws.length : Nat) : Int) by omega)]
        refine iteF ?_
        rw [sw_end c] at hm
        exact ⟨_, rfl, q D rs G sG hDn hG hm⟩
    · obtain ⟨v, e, v0, e0, x, n, e1, l, i, j, e2, e3, k, e4, q⟩ := h
      exact ⟨v, e, v0, e0, x, n, e1, l, i, j, e2, e3, k, e4, m _ _ q⟩
abbrev KnSw (P : Program) (w : World) (K : PySem.W.Frag) (mg : Str → Option Value) (base : Heap) : Prop := Kn P w K mg base CX0 3 "_law_swept" ["_law_image_here"] [] (spMet K)
end
end Bm
set_option maxHeartbeats 800000
namespace Bm
open PySem PySem.Spec PyProof.Rows L2
def oneS (c : Nat) : Str := mk [c]
theorem sg_join0 (x a : Str) : ∀ l : List Str, sg (Txt.join x (a :: l)) = sg a ++ l.flatMap fun b => sg x ++ sg b
  | [] => by rw [join_one]; simp
  | b :: l => by
    have ih := sg_join0 x b l
    rw [join_more, sg_app, sg_app, ih, List.flatMap_cons]
    simp [List.append_assoc]
theorem hex_at : ∀ d, d < 16 → (sg ("0123456789abcdef" : Str))[d]? = some (dg d) := by decide +kernel
section
variable {P : Program} {w : World} {K : PySem.W.Frag} {mg : Str → Option Value} {base : Heap} {f : Addr} {fd : FuncData} {dvs : List V}
def spHex : Sp := fun vs H Q _ => ∃ n : Nat, vs = [.int (n : Int)] ∧ n < 65536 ∧ ∀ H', Same H H' → Q (.str (figT 16 4 n)) H'
abbrev N__law_hex : List Str := ["_law_word", "_law_step"]
theorem sc__law_hex : FnScope ["_law_word", "_law_step"] ["_law_word"] (defScope s__law_hex) := ⟨rfl, rfl, rfl, by decide +kernel, rfl, by decide +kernel, by decide +kernel⟩
theorem ok_hex (F : FunD K "_law_hex" "_law_hex" (defArgs s__law_hex) (defBody s__law_hex) (defScope s__law_hex) dvs [] f fd) : FnOk P w K mg base CX0 1 f fd ["_law_word"] spHex := by
  refine F.ok sc__law_hex (fun vs H Q E h => ?_) (fun cdv A outer s H vs Q E hr h => ?_)
  · obtain ⟨n, rfl, _⟩ := h
    rfl
  · obtain ⟨n, rfl, hn, q⟩ := h
    refine ⟨_, PSs.nox (pss_one (ps_ret (pe_bm PySem.F.plainAttrs_str PySem.F.slot_str_join PySem.F.type_str_join mt_join pe_str (pa_cons (pe_lc (own := [("_law_step", 1)]) (g := gName 1) rfl sc__law_hex.nd (pi_tup (pe_tup (pa_cons pe_int (pa_cons pe_int (pa_cons pe_int (pa_cons pe_int pa_nil)))))) (blkOk_by (own := [("_law_step", 1)]) (N := N__law_hex) (sc := defScope s__law_hex) (by decide +kernel)) (fun _ _ _ _ _ => (pg_name (i := 1) sc__law_hex.nd rfl (Or.inl rfl))) (fun _ _ _ _ _ => pts_nil) (fun _ _ _ _ _ => (pe_ix (show IxR _ rIxS from ix_str) pe_str (pe_op op_modN (pe_op op_fdivN (pv 0) (pv 1)) pe_int) (fun _ _ => rfl)))) pa_nil)))), ?_⟩
    refine ⟨rfl, line5 (by simp), fun T hT => ?_⟩
    have s1 : Same H (upd H T (.tup [V.int 4096, V.int 256, V.int 16, V.int 1])) := Same.add hT
    have e1 : (upd H T (.tup [V.int 4096, V.int 256, V.int 16, V.int 1])) T = some (.tup [V.int 4096, V.int 256, V.int 16, V.int 1]) := upd_same
    generalize upd H T (.tup [V.int 4096, V.int 256, V.int 16, V.int 1]) = H1 at s1 e1 ⊢
    have e1 : H1 T = some (.tup (([4096, 256, 16, 1] : List Nat).map fun (k : Nat) => V.int (k : Int))) := e1
    generalize hst : ([4096, 256, 16, 1] : List Nat) = st at e1
    have hpos : ∀ k ∈ st, 0 < k ∧ k ≤ 4096 := by rw [← hst]; decide
    have lst : st.length = 4 := by rw [← hst]; rfl
    refine ⟨T, rfl, ⟨_, SqT.of e1⟩, fun B hB => ?_⟩
    refine lc_it walk_tup (fun i G => Same H1 G ∧ G B = some (.lst (((st.take i).map fun k => oneS (dg (n / k % 16))).map V.str))) ⟨Same.add hB, upd_same⟩ (fun _ G h1 h => Same.tup h.1 (SqT.of e1)) ?_ ?_
    · rintro i x G G' hi ⟨g1, g2⟩ ⟨eH, eX⟩
      rw [eH]
      rw [List.getElem?_map] at eX
      obtain ⟨k, hk, rfl⟩ := Option.map_eq_some_iff.mp eX
      obtain ⟨k0, k1⟩ := hpos k (List.mem_of_getElem? hk)
      have ed : (((n : Nat) : Int).fdiv ((k : Nat) : Int)).fmod 16 = ((n / k % 16 : Nat) : Int) := by
        rw [Int.fdiv_eq_ediv_of_nonneg _ (by omega), Int.fmod_eq_emod_of_nonneg _ (by decide)]
        rfl
      have hd : n / k % 16 < 16 := Nat.mod_lt _ (by decide)
      refine ⟨rfl, _, rfl, _, rfl, _, _, rfl, rfl, ?_⟩
      refine ⟨⟨by omega, by omega⟩, _, _, rfl, rfl, (by decide : (16 : Int) ≠ 0), "0123456789abcdef", ((n / k % 16 : Nat) : Int), dg (n / k % 16), rfl, congrArg V.int ed, line5 (by decide +kernel), atI_nat (hex_at _ hd), _, g2, line_lt (by rw [List.length_map, List.length_map, List.length_take]; omega), Same.mut g1 hB, ?_⟩
      rw [upd_same, take_succ' hk, List.map_append, List.map_append]
      rfl
    · rintro G ⟨g1, g2⟩
      rw [List.length_map, List.take_length] at g2
      refine ⟨_, B, _, rfl, rfl, .inl (SqL.of g2), ?_, ?_⟩
      · have e1 : ("" : Str).length = 0 := by decide +kernel
        rw [e1, ← hst]
        rw [List.length_map]
        show 1 + (1 + (1 + (1 + 0))) + 4 * 0 ≤ _
        decide
      · have e : Txt.join "" (st.map fun k => oneS (dg (n / k % 16))) = figT 16 4 n := sg_ext (by
          rw [sg_fig (by decide) (by omega), ← hst]
          show sg (Txt.join "" (oneS _ :: [oneS _, oneS _, oneS _])) = _
          rw [sg_join0]
          show [dg (n / 4096 % 16)] ++ ([] ++ [dg (n / 256 % 16)] ++ ([] ++ [dg (n / 16 % 16)] ++ ([] ++ [dg (n / 1 % 16)] ++ []))) = _
          rw [figs_cons, figs_cons, figs_cons, figs_cons]
          rfl)
        rw [e]
        exact q G (Same.trans s1 g1)
abbrev KnHex (P : Program) (w : World) (K : PySem.W.Frag) (mg : Str → Option Value) (base : Heap) : Prop := Kn P w K mg base CX0 1 "_law_hex" ["_law_word"] [] spHex
end
end Bm
set_option maxHeartbeats 800000
namespace Bm
open PySem PySem.Spec PyProof.Rows L2
theorem seq_join {t u : TS} {D : Ends} {σ : L2.St} {H : Hp} (P : L2.St → Hp → Prop) (h1 : ∀ τ G, P τ G → u D τ G) (h2 : ∀ nx : L2.St → Hp → Prop, (∀ τ G, P τ G → nx τ G) → t { D with nx := nx } σ H) : tSeq t u D σ H := h2 (u D) h1
theorem known_yes (ws : List Int) (g : Int) : inV (.int g) (knownV ws) = true ↔ ∃ j, IsNo ws g j := by
  unfold inV
  rw [List.any_eq_true]
  constructor
  · rintro ⟨v, hv, e⟩
    obtain ⟨j, hj⟩ := List.mem_iff_getElem?.mp hv
    obtain ⟨g2, rfl, hn⟩ := known_at.mp hj
    have : g2 = g := by simpa [eqV] using e
    exact ⟨j, this ▸ hn⟩
  · rintro ⟨j, hj⟩
    refine ⟨.int g, List.mem_iff_getElem?.mpr ⟨j, known_at.mpr ⟨g, rfl, hj⟩⟩, ?_⟩
    simp [eqV]
theorem TupsV.at2 {K : PySem.W.Frag} {H : Hp} : ∀ {vs : List V} {ls : List (List V)} {i : Nat} {x : V}, TupsV K H vs ls → vs[i]? = some x → ∃ p l, x = .ref p ∧ ls[i]? = some l ∧ SqT K H p l
  | _, _, i, x, .nil, h => by simp at h
  | _, _, 0, x, .cons (p := p) (l := l) h1 _, h => ⟨p, l, (Option.some.inj h).symm, rfl, h1⟩
  | _, _, i + 1, x, .cons _ h2, h => TupsV.at2 (i := i) h2 h
theorem in_ints (g : Int) (l : List Int) : inV (.int g) (vInts l) = decide (g ∈ l) := by
  unfold inV vInts
  rw [List.any_map, Bool.eq_iff_iff, List.any_eq_true, decide_eq_true_eq]
  constructor
  · rintro ⟨x, hx, e⟩
    have : x = g := by simpa [eqV] using e
    exact this ▸ hx
  · exact fun h => ⟨g, h, by simp [eqV]⟩
theorem flat_ints (l : List Int) : (vInts l).all flatV = true := by
  rw [List.all_eq_true]
  intro v hv
  obtain ⟨g, _, rfl⟩ := List.mem_map.mp hv
  rfl
theorem rep_bit (x : Str) (b : Bool) : repS x (if b = true then 1 else 0 : Int).toNat = if b = true then x else "" := by
  cases b with
  | true =>
    refine sg_ext ?_
    unfold repS
    rw [sg_mk]
    show (List.replicate 1 (sg x)).flatten = sg x
    simp
  | false => exact sg_ext (by
      unfold repS
      rw [sg_mk]
      show (List.replicate 0 (sg x)).flatten = sg ("" : Str)
      rw [show sg ("" : Str) = [] by decide +kernel]
      rfl)
noncomputable def goalsTo (ws : List Int) (i : Nat) : List Int := ((met ws).take i).filterMap fun m => (kept ws m.2).bind De.goal
theorem goals_next {ws : List Int} {i : Nat} {m : Nat × Option De} (h : (met ws)[i]? = some m) : goalsTo ws (i + 1) = goalsTo ws i ++ ((kept ws m.2).bind De.goal).toList := by
  unfold goalsTo
  rw [take_succ' h, List.filterMap_append]
  congr 1
theorem goals_all (ws : List Int) : goalsTo ws (met ws).length = goalsOf ws := by
  unfold goalsTo goalsOf
  rw [List.take_length]
theorem intT_tiny {i : Int} (h : i.natAbs < 100000) : (intT i).length ≤ 6 := by
  have := int_text_length_le10 (a := i) (k := 5) (by decide) h
  unfold intT
  rw [PySem.ofString_length]
  exact this
section
variable {P : Program} {w : World} {K : PySem.W.Frag} {mg : Str → Option Value} {base : Heap} {f : Addr} {fd : FuncData} {dvs : List V}
def spLSh (K : PySem.W.Frag) : Sp := fun vs H Q _ => ∃ (t : Addr) (ws : List Int), vs = [.ref t] ∧ SqT K H t (vInts ws) ∧ ws.length ≤ 200 ∧ wsOk ws ∧ ∀ H', Same H H' → Q (.str (shownT ws)) H'
abbrev N__law_shown : List Str := ["_law_image_here", "_law_some", "_law_place", "_law_deed_here", "_law_many", "_law_known", "_law_rows", "_law_goals", "_law_text", "_law_found", "_law_word"]
theorem sc__law_shown : FnScope ["_law_image_here", "_law_some", "_law_place", "_law_deed_here", "_law_many", "_law_known", "_law_rows", "_law_goals", "_law_text", "_law_found", "_law_word"] ["_law_image_here"] (defScope s__law_shown) := ⟨rfl, rfl, rfl, by decide +kernel, rfl, by decide +kernel, by decide +kernel⟩
theorem ok_lshown (F : FunD K "_law_shown" "_law_shown" (defArgs s__law_shown) (defBody s__law_shown) (defScope s__law_shown) dvs [] f fd) (k__law_swept : KnSw P w K mg base) (k__law_hex : KnHex P w K mg base) (k__law_row_of : KnLRow P w K mg base) (g_str : mg "str" = none) (g_len : mg "len" = none) (g_int : mg "int" = none) : FnOk P w K mg base CX0 4 f fd ["_law_image_here"] (spLSh K) := by
  refine F.ok sc__law_shown (fun vs H Q E h => ?_) (fun cdv A outer s H vs Q E hr h => ?_)
  · obtain ⟨a, ws, rfl, _⟩ := h
    rfl
  · obtain ⟨t, ws, rfl, hS, hl, hw, q⟩ := h
    have hl3 : ws.length ≤ 300 := Nat.le_trans hl (by decide)
    refine ⟨_, PSs.nox (pss_cons (ps_set (i := 1) sc__law_shown.nd rfl (Or.inl rfl) (pk k__law_swept hr (by decide) rfl pass0 (pa_cons (pv 0) pa_nil)))
      (pss_cons (ps_set (i := 5) sc__law_shown.nd rfl (Or.inl rfl) (pe_op op_cat (pe_lc (own := [("_law_place", 2), ("_law_deed_here", 3), ("_law_many", 4)]) (g := gTup K 3 (gCons (gName 2) (gCons (gName 3) (gCons (gName 4) (gNil))))) rfl sc__law_shown.nd (pi_list (pv 1)) (blkOk_by (own := [("_law_place", 2), ("_law_deed_here", 3), ("_law_many", 4)]) (N := N__law_shown) (sc := defScope s__law_shown) (by decide +kernel)) (fun _ _ _ _ _ => (pg_tup rfl (pgs_cons (pg_name (i := 2) sc__law_shown.nd rfl (Or.inl rfl)) (pgs_cons (pg_name (i := 3) sc__law_shown.nd rfl (Or.inl rfl)) (pgs_cons (pg_name (i := 4) sc__law_shown.nd rfl (Or.inl rfl)) pgs_nil))))) (fun _ _ _ _ _ => pts_nil) (fun _ _ _ _ _ => (pv 2))) (pe_lst (pa_cons (pe_callB call_len rfl g_len boot_len (pa_cons (pv 0) pa_nil)) pa_nil))))
      (pss_cons (ps_set (i := 6) sc__law_shown.nd rfl (Or.inl rfl) (pe_lst pa_nil))
      (pss_cons (ps_set (i := 7) sc__law_shown.nd rfl (Or.inr rfl) (pe_lst pa_nil))
      (pss_cons (ps_for PassesOwn.never rfl (pi_list (pv 1)) (pg_tup rfl (pgs_cons (pg_name (i := 2) sc__law_shown.nd rfl (Or.inl rfl)) (pgs_cons (pg_name (i := 3) sc__law_shown.nd rfl (Or.inl rfl)) (pgs_cons (pg_name (i := 4) sc__law_shown.nd rfl (Or.inl rfl)) pgs_nil))))
      (pss_cons (ps_if (PW.pt (pw_and (pt_cmpR op_notN (pv 3) pe_non (nomark _)) (pw_and1 (pt_cmpR op_in_seq (pe_ix ix_tup (pv 3) pe_int (fun _ _ => rfl)) (pe_tup (pa_cons pe_str (pa_cons pe_str pa_nil))) rfl)))) (pss_cons (ps_set (i := 3) sc__law_shown.nd rfl (Or.inl rfl) (pe_ifExp (pt_cmpR op_in_seq (pe_ix ix_tup (pv 3) (pe_un un_neg pe_int) (fun _ _ => rfl)) (pv 5) rfl) (pv 3) pe_non))
      (pss_one (ps_set (i := 7) sc__law_shown.nd rfl (Or.inr rfl) (pe_op op_cat (pv 7) (pe_ifExp (pt_cmpR op_notN (pv 3) pe_non (nomark _)) (pe_lst (pa_cons (pe_ix ix_tup (pv 3) (pe_un un_neg pe_int) (fun _ _ => rfl)) pa_nil)) (pe_lst pa_nil)))))) pss_nil)
      (pss_cons (ps_set (i := 8) sc__law_shown.nd rfl (Or.inl rfl) (pe_ifExp (pt_cmpR op_notN (pv 3) pe_non (nomark _)) (pk k__law_row_of hr (by decide) rfl pass0 (pa_cons (pv 3) pa_nil)) pe_str))
      (pss_cons (ps_if (pt_cmpR op_isN (pv 3) pe_non (nomark _)) (pss_one (ps_set (i := 8) sc__law_shown.nd rfl (Or.inl rfl) (pe_op op_add_str pe_str (pe_bm PySem.F.plainAttrs_str PySem.F.slot_str_join PySem.F.type_str_join mt_join pe_str (pa_cons (pe_lc (own := [("_law_word", 10)]) (g := gName 10) rfl sc__law_shown.nd (pi_tup (pe_slice sl_tupA (pv 0) (po_some (pv 2)) (po_some (pe_op op_add (pv 2) (pv 4))))) (blkOk_by (own := [("_law_word", 10)]) (N := N__law_shown) (sc := defScope s__law_shown) (by decide +kernel)) (fun _ _ _ _ _ => (pg_name (i := 10) sc__law_shown.nd rfl (Or.inl rfl))) (fun _ _ _ _ _ => pts_nil) (fun _ _ _ _ _ => (pe_op op_add_str pe_str (pk k__law_hex hr (by decide) rfl pass0 (pa_cons (pv 10) pa_nil))))) pa_nil))))) pss_nil)
      (pss_one (ps_expr (pe_bm PySem.F.plainAttrs_list PySem.F.slot_list_append PySem.F.type_list_append mt_append (pv 6) (pa_cons (pe_tup (pa_cons (pv 2) (pa_cons (pv 8) pa_nil))) pa_nil))))))))
      (pss_cons (ps_setLc (i := 9) (own := [("_law_place", 2), ("_law_text", 8)]) (g := gTup K 2 (gCons (gName 2) (gCons (gName 8) (gNil)))) rfl sc__law_shown.nd rfl rfl (sw_true rfl rfl rfl (by decide +kernel)) (pi_list (pv 6)) (blkOk_by (own := [("_law_place", 2), ("_law_text", 8)]) (N := N__law_shown) (sc := defScope s__law_shown) (by decide +kernel)) (fun _ _ _ _ _ => (pg_tup rfl (pgs_cons (pg_name (i := 2) sc__law_shown.nd rfl (Or.inl rfl)) (pgs_cons (pg_name (i := 8) sc__law_shown.nd rfl (Or.inl rfl)) pgs_nil)))) (fun _ _ _ _ _ => pts_nil) (fun _ _ _ _ _ => (pe_op op_add_str (pe_op op_repS (pe_op op_add_str (pe_op op_add_str pe_str (pe_callTy call_str_int rfl g_str (by decide +kernel) (pa_cons (pv 2) pa_nil))) pe_str) (pe_callTy call_int1 rfl g_int (by decide +kernel) (pa_cons (pe_cmpR (show OpR _ (compareOp .In) (rIn K false) from op_in_seq) (pv 2) (pv 7) rfl) pa_nil))) (pv 8))))
      (pss_one (ps_ret (pe_bm PySem.F.plainAttrs_str PySem.F.slot_str_join PySem.F.type_str_join mt_join pe_str (pa_cons (pe_op op_cat (pv 9) (pe_op op_rep (pe_lst (pa_cons (pe_op op_add_str (pe_op op_add_str pe_str (pe_callTy call_str_int rfl g_str (by decide +kernel) (pa_cons (pe_callB call_len rfl g_len boot_len (pa_cons (pv 0) pa_nil)) pa_nil))) pe_str) pa_nil)) (pe_callTy call_int1 rfl g_int (by decide +kernel) (pa_cons (pe_cmpR op_in_seq (pe_callB call_len rfl g_len boot_len (pa_cons (pv 0) pa_nil)) (pv 7) rfl) pa_nil)))) pa_nil)))))))))), ?_⟩
    refine ⟨_, rfl, t, ws, rfl, hS, hl3, hw, fun D rs H1 s1 hDn hDS hm => ?_⟩
    have rlen : rs.length = (met ws).length := hm.len
    have mlen := met_len ws
    refine ⟨_, rfl, D, rfl, ⟨_, SqL.of hDS⟩, fun B hB => ?_⟩
    refine lc_it (walk_list (xs := rs)) (fun i G => Same H1 G ∧ G B = some (.lst (((met ws).take i).map fun m => V.int (m.1 : Nat)))) ⟨Same.add hB, upd_same⟩ (fun _ G _ h => h.1.seq (SqL.of hDS)) ?_ ?_
    · rintro i x G G' hi ⟨g1, g2⟩ ⟨eH, eX⟩
      rw [eH]
      have hmG := hm.map (fun a xs => Same.tup (H' := G) (a := a) (xs := xs) g1)
      obtain ⟨r, v, p, o, rfl, hmi, hr3, hv⟩ := hmG.at_ eX
      have il := (List.getElem?_eq_some_iff.mp hmi).1
      refine ⟨r, _, rfl, hr3, rfl, _, _, rfl, _, _, rfl, _, _, rfl, rfl, rfl, ?_⟩
      refine ⟨_, rfl, _, g2, line_lt (by rw [List.length_map, List.length_take]; omega), Same.mut g1 hB, ?_⟩
      rw [upd_same, take_succ' hmi, List.map_append]
      rfl
    · rintro G ⟨g1, g2⟩
      rw [rlen, List.take_length] at g2
      have gS := Same.tup (Same.trans s1 g1) hS
      have vl : (vInts ws).length = ws.length := List.length_map ..
      refine ⟨_, rfl, _, _, rfl, .inr ⟨_, gS, rfl⟩, line5 (by simp), fun B2 hB2 => ?_⟩
      rw [vl]
      have s2 : Same G (upd G B2 (.lst [V.int (ws.length : Nat)])) := Same.add hB2
      have e2 : (upd G B2 (.lst [V.int (ws.length : Nat)])) B2 = some (.lst [V.int (ws.length : Nat)]) := upd_same
      generalize upd G B2 (.lst [V.int (ws.length : Nat)]) = G2 at s2 e2 ⊢
      refine ⟨B, B2, _, _, rfl, rfl, s2 _ _ g2, e2, line5 (by simp; omega), fun KN hKN => ?_⟩
      rw [show ((met ws).map fun m => V.int (m.1 : Nat)) ++ [V.int (ws.length : Nat)] = knownV ws from rfl]
      have s3 : Same G2 (upd G2 KN (.lst (knownV ws))) := Same.add hKN
      have e3 : (upd G2 KN (.lst (knownV ws))) KN = some (.lst (knownV ws)) := upd_same
      generalize upd G2 KN (.lst (knownV ws)) = G3 at s3 e3 ⊢
      refine ⟨line5 (by simp), fun R hR => ?_⟩
      have hRn : G3 R = none := hR
      have s4 : Same G3 (upd G3 R (.lst [])) := Same.add hR
      have e4 : (upd G3 R (.lst [])) R = some (.lst []) := upd_same
      generalize upd G3 R (.lst []) = G4 at s4 e4 ⊢
      refine ⟨line5 (by simp), fun Gl hGl => ?_⟩
      have hGn : G4 Gl = none := hGl
      have nGR : Gl ≠ R := fun z => by rw [z, e4] at hGn; cases hGn
      have s5 : Same G4 (upd G4 Gl (.lst [])) := Same.add hGl
      have e5 : (upd G4 Gl (.lst [])) Gl = some (.lst []) := upd_same
      generalize upd G4 Gl (.lst []) = G5 at s5 e5 ⊢
      have s05 := Same.trans s1 (Same.trans g1 (Same.trans s2 (Same.trans s3 (Same.trans s4 s5))))
      have s15 := Same.trans g1 (Same.trans s2 (Same.trans s3 (Same.trans s4 s5)))
      have hRH : H R = none := noneOf2 (Same.trans s1 (Same.trans g1 (Same.trans s2 s3))) hRn
      have nDR : D ≠ R := fun z => by have := (Same.trans g1 (Same.trans s2 s3)) _ _ hDS; rw [z, hRn] at this; cases this
      have nKR : KN ≠ R := fun z => by rw [z, hRn] at e3; cases e3
      refine ⟨_, rfl, D, rfl, ⟨_, SqL.of (s15 _ _ hDS)⟩, for_list (K := K) (a := D) (xs := rs) (fun i σ Ga => ∃ (v2 v3 v4 v8 : Option V) (gl : Addr) (rr : List V), σ = [some (.ref t), some (.ref D), v2, v3, v4, some (.ref KN), some (.ref R), some (.ref gl), v8, none, none] ∧ Same H Ga ∧ Ga D = some (.lst rs) ∧ MetV K Ga rs (met ws) ∧ Ga KN = some (.lst (knownV ws)) ∧ Ga gl = some (.lst (vInts (goalsTo ws i))) ∧ gl ≠ R ∧ Ga R = some (.lst rr) ∧ TupsV K Ga rr (((met ws).take i).map fun m => [V.int (m.1 : Nat), V.str (bodyT ws m)]))
        ⟨none, none, none, none, Gl, [], rfl, s05, s15 _ _ hDS, hm.map (fun a xs => Same.tup s15), s5 _ _ (s4 _ _ e3), e5, nGR, s5 _ _ e4, .nil⟩ (fun i σ Ga _ h => ?_) ?_ ?_⟩
      · obtain ⟨_, _, _, _, _, _, _, _, h, _⟩ := h
        exact SqL.of h
      · rintro i x σ Ga hi ⟨v2, v3, v4, v8, gl, rr, rfl, sa, aD, am, aK, aG, nG, aR, aT⟩
        obtain ⟨r, v, p, o, rfl, hmi, hr3, hv⟩ := am.at_ hi
        have il := (List.getElem?_eq_some_iff.mp hmi).1
        have hpl := (met_at hmi).1
        have hoat := (met_at hmi).2
        have hoko : ∀ d, o = some d → d.ok := fun d e => by
          have : o = atD ws p := hoat
          exact (atD_is (this.symm.trans e)).1
        refine ⟨r, _, rfl, hr3, rfl, _, _, rfl, _, _, rfl, _, _, rfl, rfl, ?_⟩
        refine seq_join (fun τ Gb => ∃ (kv : V) (gl2 : Addr), τ = [some (.ref t), some (.ref D), some (.int (p : Nat)), some kv, some (.int (sizeO p o : Nat)), some (.ref KN), some (.ref R), some (.ref gl2), v8, none, none] ∧ Same Ga Gb ∧ VD K Gb kv (kept ws o) ∧ Gb gl2 = some (.lst (vInts (goalsTo ws (i + 1)))) ∧ gl2 ≠ R) (fun τ Gb hb => ?_) (fun nx tail => ?_)
        · obtain ⟨kv, gl2, rfl, sb, hk, hG2, nG2⟩ := hb
          have hsa := Same.trans sa sb
          have bS := Same.tup hsa hS
          have bR := sb _ _ aR
          have bT := aT.map (fun a xs => Same.tup (H' := Gb) (a := a) (xs := xs) sb)
          have bm := am.map (fun a xs => Same.tup (H' := Gb) (a := a) (xs := xs) sb)
          have hvo : (kept ws o = none ∧ kv = .non) ∨ ∃ d pd, kept ws o = some d ∧ kv = .ref pd ∧ SqT K Gb pd d.vals := by
            cases ck : kept ws o with
            | none => rw [ck] at hk; exact .inl ⟨rfl, hk⟩
            | some d => rw [ck] at hk; exact .inr ⟨d, hk.choose, rfl, hk.choose_spec⟩
          refine seq_join (fun τ Gc => ∃ ta : Str, τ = [some (.ref t), some (.ref D), some (.int (p : Nat)), some kv, some (.int (sizeO p o : Nat)), some (.ref KN), some (.ref R), some (.ref gl2), some (.str ta), none, none] ∧ Same Gb Gc ∧ ∀ d, kept ws o = some d → ta = rowT d) (fun τ Gc hc => ?_) (fun nx tail => ?_)
          · obtain ⟨ta, rfl, sc, hta⟩ := hc
            refine seq_join (fun τ Gd => τ = [some (.ref t), some (.ref D), some (.int (p : Nat)), some kv, some (.int (sizeO p o : Nat)), some (.ref KN), some (.ref R), some (.ref gl2), some (.str (bodyT ws (p, o))), none, none] ∧ Same Gc Gd) (fun τ Gd hd => ?_) (fun nx tail => ?_)
            · obtain ⟨rfl, sd⟩ := hd
              have s2d := Same.trans sc sd
              have dR := s2d _ _ bR
              have hd0 := Same.trans hsa s2d
              have rrl : rr.length ≤ 300 := by
                rw [aT.len, List.length_map, List.length_take]
                omega
              refine ⟨_, rfl, .inl ⟨rfl, _, SqL.of dR⟩, _, rfl, _, rfl, line5 (by simp), fun T hT => ?_⟩
              have hTn : Gd T = none := hT
              have se : Same Gd (upd Gd T (.tup [V.int (p : Nat), V.str (bodyT ws (p, o))])) := Same.add hT
              have ee : (upd Gd T (.tup [V.int (p : Nat), V.str (bodyT ws (p, o))])) T = some (.tup [V.int (p : Nat), V.str (bodyT ws (p, o))]) := upd_same
              generalize upd Gd T (.tup [V.int (p : Nat), V.str (bodyT ws (p, o))]) = Ge at se ee ⊢
              have s2e := Same.trans s2d se
              have eR := s2e _ _ bR
              refine ⟨R, rr, _, rfl, rfl, eR, line_lt (by omega), _, _, _, _, gl2, rr ++ [.ref T], rfl, Same.mut (Same.trans hd0 se) hRH, ?_, ?_, ?_, ?_, nG2, upd_same, ?_⟩
              · rw [upd_ne nDR]
                exact s2e _ _ (sb _ _ aD)
              · exact (bm.map (fun a xs => Same.tup s2e)).map (fun a xs => tup_put2 eR)
              · rw [upd_ne nKR]
                exact s2e _ _ (sb _ _ aK)
              · rw [upd_ne nG2]
                exact s2e _ _ hG2
              · rw [take_succ' hmi, List.map_append]
                exact TupsV.snoc (tup_put2 eR (SqT.of ee)) ((bT.map (fun a xs => Same.tup s2e)).map (fun a xs => tup_put2 eR))
            · refine ⟨_, rfl, rfl, _, rfl, ?_⟩
              rcases hvo with ⟨ek, ev⟩ | ⟨d, pd, ek, ev, hd⟩
              · rw [decide_eq_true ev]
                have eb : bodyT ws (p, o) = wordT ((ws.drop p).take (sizeO p o)) := by
                  unfold bodyT
                  rw [show kept ws (p, o).2 = none from ek]
                have hsz := size2' p o
                refine iteT ⟨rfl, _, rfl, _, rfl, _, rfl, _, rfl, _, rfl, _, _, rfl, rfl, _, rfl, rsl (Same.tup sc bS) fun b Gd sd hb => ⟨b, rfl, ⟨_, hb⟩, fun B hB => ?_⟩⟩
                rw [cut_span, span_ints] at hb
                have hwl : wsOk ((ws.drop p).take (sizeO p o)) := fun x hx => hw x (List.mem_of_mem_drop (List.mem_of_mem_take hx))
                have hll : ((ws.drop p).take (sizeO p o)).length ≤ 2 := by rw [List.length_take]; omega
                generalize (ws.drop p).take (sizeO p o) = l at hb hwl hll eb
                have vl2 : (vInts l).length = l.length := List.length_map ..
                have e0 : ("0x" : Str).length = 2 := by decide +kernel
                refine lc_it (walk_tup (xs := vInts l)) (fun i G => Same Gd G ∧ G B = some (.lst (((l.take i).map fun x => ("0x" : Str) ++ figT 16 4 x.toNat).map V.str))) ⟨Same.add hB, upd_same⟩ (fun _ _ _ h => Same.tup h.1 hb) ?_ ?_
                · rintro i x G G' hi ⟨g1, g2⟩ ⟨eH, eX⟩
                  rw [eH]
                  have eX : (l.map V.int)[i]? = some x := eX
                  rw [List.getElem?_map] at eX
                  obtain ⟨n, hn, rfl⟩ := Option.map_eq_some_iff.mp eX
                  have hx := hwl n (List.mem_of_getElem? hn)
                  have hn2 : n.toNat < 65536 := by omega
                  have fl : (figT 16 4 n.toNat).length = 4 := by rw [← sg_len, sg_fig (k := 3) (by decide) hn2, figs_len]
                  refine ⟨rfl, _, rfl, n.toNat, by rw [show ((n.toNat : Nat) : Int) = n by omega]; rfl, hn2, fun Gx sx => ⟨_, _, rfl, rfl, line5 (by rw [e0, fl]; decide), _, sx _ _ g2, line_lt (by rw [List.length_map, List.length_map, List.length_take]; omega), Same.mut (Same.trans g1 sx) hB, ?_⟩⟩
                  rw [upd_same, take_succ' hn, List.map_append, List.map_append]
                  rfl
                · rintro G ⟨g1, g2⟩
                  rw [vl2, List.take_length] at g2
                  have c1 : (", " : Str).length = 2 := by decide +kernel
                  have wl := wordT_len hwl (by omega)
                  have sum : ∀ m : List Int, wsOk m → ((m.map fun x => ("0x" : Str) ++ figT 16 4 x.toNat).map (·.length)).sum = m.length * 6 := fun m => by
                    induction m with
                    | nil => intro _; rfl
                    | cons x m ih =>
                      intro h
                      have hx := h x (List.mem_cons_self ..)
                      rw [List.map_cons, List.map_cons, List.sum_cons, hex_len _ (by omega), ih fun y hy => h y (List.mem_cons_of_mem _ hy), List.length_cons]
                      omega
                  have s6 := sum l hwl
                  refine ⟨_, B, _, rfl, rfl, .inl (SqL.of g2), by rw [s6, List.length_map, c1]; omega, _, _, rfl, rfl, ?_, tail _ _ ⟨?_, Same.trans sd g1⟩⟩
                  · unfold wordT at wl
                    rw [sapp_len] at wl
                    exact line5 (by omega)
                  · rw [eb]
                    rfl
              · rw [decide_eq_false (by rw [ev]; simp)]
                have eb : bodyT ws (p, o) = rowT d := by
                  unfold bodyT
                  rw [show kept ws (p, o).2 = some d from ek]
                exact iteF (tail _ _ ⟨by rw [eb, hta d ek], Same.refl _⟩)
          · refine ⟨_, rfl, rfl, _, rfl, ?_⟩
            rcases hvo with ⟨ek, ev⟩ | ⟨d, pd, ek, ev, hd⟩
            · rw [decide_eq_true ev]
              exact iteF (tail _ _ ⟨"", rfl, Same.refl _, fun d e => by rw [ek] at e; cases e⟩)
            · rw [decide_eq_false (by rw [ev]; simp)]
              have hokd := hoko d (kept_of ek)
              exact iteT ⟨_, rfl, pd, d, by rw [ev]; rfl, hd, hokd, ok_goalOk2 hokd, fun Gc sc => tail _ _ ⟨rowT d, rfl, sc, fun d2 e => by rw [ek] at e; rw [Option.some.inj e]⟩⟩
        · have gnext := goals_next hmi
          have hvo : (o = none ∧ v = .non) ∨ ∃ d pd, o = some d ∧ v = .ref pd ∧ SqT K Ga pd d.vals := by
            cases o with
            | none => exact .inl ⟨rfl, hv⟩
            | some d => exact .inr ⟨d, hv.choose, rfl, hv.choose_spec⟩
          refine ⟨_, rfl, rfl, _, rfl, ?_⟩
          rcases hvo with ⟨eo, ev⟩ | ⟨d, pd, eo, ev, hd⟩
          · rw [decide_eq_true ev]
            have ek : kept ws o = none := by rw [eo]; rfl
            refine iteF (iteF (tail _ _ ⟨v, gl, rfl, Same.refl _, by rw [ek]; exact ev, ?_, nG⟩))
            rw [gnext, show kept ws (p, o).2 = none from ek]
            rw [show (Option.bind (none : Option De) De.goal).toList = ([] : List Int) from rfl, List.append_nil]
            exact aG
          · rw [decide_eq_false (by rw [ev]; simp)]
            have hokd := hoko d eo
            obtain ⟨z, rv, ez, eg⟩ := head_goes hokd
            have hd1 := hd
            rw [ez] at hd1
            refine iteT ⟨_, rfl, pd, _, _, _, by rw [ev], rfl, hd1, at0, line5 (by simp), fun p1 hp1 => ?_⟩
            have sc : Same Ga (upd Ga p1 (.tup [V.str "jump", V.str "call"])) := Same.add hp1
            have ec : (upd Ga p1 (.tup [V.str "jump", V.str "call"])) p1 = some (.tup [V.str "jump", V.str "call"]) := upd_same
            generalize upd Ga p1 (.tup [V.str "jump", V.str "call"]) = Gc at sc ec ⊢
            refine ⟨p1, _, rfl, .inr (SqT.of ec), rfl, rfl, _, rfl, ?_⟩
            show if inV (.str z) [.str "jump", .str "call"] = true then _ else _
            rw [eg]
            cases hgo : d.goal with
            | none =>
              have eb : o.bind De.goal = none := by rw [eo]; exact hgo
              have ek : kept ws o = o := by
                unfold kept
                rw [eb]
              refine iteF (tail _ _ ⟨v, gl, rfl, sc, by rw [ek, eo, ev]; exact ⟨pd, rfl, Same.tup sc hd⟩, ?_, nG⟩)
              rw [gnext, show kept ws (p, o).2 = o from ek, eb]
              rw [show (none : Option Int).toList = [] from rfl, List.append_nil]
              exact sc _ _ aG
            | some g =>
              have eb : o.bind De.goal = some g := by rw [eo]; exact hgo
              refine iteT ?_
              have hdc := Same.tup sc hd
              have aKc := sc _ _ aK
              have aGc := sc _ _ aG
              have aRc := sc _ _ aR
              have gll : (goalsTo ws i).length ≤ 200 := by
                have := List.length_filterMap_le (fun m : Nat × Option De => (kept ws m.2).bind De.goal) ((met ws).take i)
                rw [List.length_take] at this
                unfold goalsTo
                omega
              refine ⟨_, rfl, _, rfl, pd, _, _, _, by rw [ev], rfl, hdc, goal_at hgo, _, rfl, KN, _, rfl, .inl (SqL.of aKc), rfl, known_flat ws, _, rfl, ?_⟩
              show if inV (.int g) (knownV ws) = true then _ else _
              by_cases hex : ∃ j, IsNo ws g j
              · have ek : kept ws o = o := by
                  unfold kept
                  rw [eb]
                  exact if_pos hex
                rw [(known_yes ws g).mpr hex]
                refine iteT ⟨_, rfl, _, rfl, _, rfl, rfl, _, rfl, ?_⟩
                rw [decide_eq_false (show ¬ v = V.non by rw [ev]; simp)]
                refine iteT ⟨_, rfl, _, rfl, pd, _, _, _, by rw [ev], rfl, hdc, goal_at hgo, line5 (by simp), fun B hB => ?_⟩
                have sd : Same Gc (upd Gc B (.lst [V.int g])) := Same.add hB
                have ed : (upd Gc B (.lst [V.int g])) B = some (.lst [V.int g]) := upd_same
                generalize upd Gc B (.lst [V.int g]) = Gd at sd ed ⊢
                refine ⟨gl, B, _, _, rfl, rfl, sd _ _ aGc, ed, line5 (by unfold vInts; rw [List.length_map]; simp; omega), fun gl2 hgl2 => ?_⟩
                have nR2 : gl2 ≠ R := fun z => by
                  rw [z, sd _ _ aRc] at hgl2
                  cases hgl2
                have eapp : vInts (goalsTo ws i) ++ [V.int g] = vInts (goalsTo ws (i + 1)) := by
                  rw [gnext, show kept ws (p, o).2 = o from ek, eb]
                  unfold vInts
                  rw [List.map_append]
                  rfl
                rw [eapp]
                have se : Same Gd (upd Gd gl2 (.lst (vInts (goalsTo ws (i + 1))))) := Same.add hgl2
                have ee : (upd Gd gl2 (.lst (vInts (goalsTo ws (i + 1))))) gl2 = some (.lst (vInts (goalsTo ws (i + 1)))) := upd_same
                generalize upd Gd gl2 (.lst (vInts (goalsTo ws (i + 1)))) = Ge at se ee ⊢
                exact tail _ _ ⟨v, gl2, rfl, Same.trans sc (Same.trans sd se), by rw [ek, eo, ev]; exact ⟨pd, rfl, Same.tup (Same.trans sd se) hdc⟩, ee, nR2⟩
              · have ek : kept ws o = none := by
                  unfold kept
                  rw [eb]
                  exact if_neg hex
                have enk : inV (.int g) (knownV ws) = false := by
                  cases c : inV (.int g) (knownV ws) with
                  | false => rfl
                  | true => exact absurd ((known_yes ws g).mp c) hex
                rw [enk]
                refine iteF ⟨_, rfl, _, rfl, rfl, _, rfl, ?_⟩
                rw [decide_eq_true (show V.non = V.non from rfl)]
                refine iteF ⟨line5 (by simp), fun B hB => ?_⟩
                have sd : Same Gc (upd Gc B (.lst [])) := Same.add hB
                have ed : (upd Gc B (.lst [])) B = some (.lst []) := upd_same
                generalize upd Gc B (.lst []) = Gd at sd ed ⊢
                refine ⟨gl, B, _, _, rfl, rfl, sd _ _ aGc, ed, line5 (by unfold vInts; rw [List.length_map]; simp; omega), fun gl2 hgl2 => ?_⟩
                have nR2 : gl2 ≠ R := fun z => by
                  rw [z, sd _ _ aRc] at hgl2
                  cases hgl2
                have eapp : vInts (goalsTo ws i) ++ [] = vInts (goalsTo ws (i + 1)) := by
                  rw [gnext, show kept ws (p, o).2 = none from ek, List.append_nil]
                  rw [show (Option.bind (none : Option De) De.goal).toList = ([] : List Int) from rfl, List.append_nil]
                rw [eapp]
                have se : Same Gd (upd Gd gl2 (.lst (vInts (goalsTo ws (i + 1))))) := Same.add hgl2
                have ee : (upd Gd gl2 (.lst (vInts (goalsTo ws (i + 1))))) gl2 = some (.lst (vInts (goalsTo ws (i + 1)))) := upd_same
                generalize upd Gd gl2 (.lst (vInts (goalsTo ws (i + 1)))) = Ge at se ee ⊢
                exact tail _ _ ⟨.non, gl2, rfl, Same.trans sc (Same.trans sd se), by rw [ek]; rfl, ee, nR2⟩
      · rintro σ Ga ⟨v2, v3, v4, v8, gl, rr, rfl, sa, aD, am, aK, aG, nG, aR, aT⟩
        rw [rlen] at aG aT
        rw [goals_all] at aG
        rw [List.take_length] at aT
        have c1 : ("p" : Str).length = 1 := by decide +kernel
        have c2 : (": " : Str).length = 2 := by decide +kernel
        have c3 : (":" : Str).length = 1 := by decide +kernel
        have rrl : rr.length = (met ws).length := by rw [aT.len, List.length_map]
        refine ⟨_, rfl, R, rfl, ⟨_, SqL.of aR⟩, fun B hB => ?_⟩
        have hBn : Ga B = none := hB
        refine lc_it (walk_list (xs := rr)) (fun i G => Same Ga G ∧ G B = some (.lst ((((met ws).take i).map (rowS ws)).map V.str))) ⟨Same.add hB, upd_same⟩ (fun _ _ _ h => h.1.seq (SqL.of aR)) ?_ ?_
        · rintro i x G G' hi ⟨g1, g2⟩ ⟨eH, eX⟩
          rw [eH]
          obtain ⟨r, l, rfl, hl2, hr2⟩ := (aT.map (fun a xs => Same.tup (H' := G) (a := a) (xs := xs) g1)).at2 eX
          rw [List.getElem?_map] at hl2
          obtain ⟨m, hmi, rfl⟩ := Option.map_eq_some_iff.mp hl2
          have il := (List.getElem?_eq_some_iff.mp hmi).1
          have hm1 := (met_at hmi).1
          have pl := intT_tiny (i := ((m.1 : Nat) : Int)) (by omega)
          have pl' : (PySem.Str.ofString (toString ((m.1 : Nat) : Int))).length ≤ 6 := pl
          refine ⟨r, _, rfl, hr2, rfl, _, _, rfl, _, _, rfl, rfl, rfl, ?_⟩
          have hokm : ∀ d, kept ws m.2 = some d → d.ok := fun d e => (atD_is ((met_at hmi).2.symm.trans (kept_of e))).1
          have bl := body_len (ws := ws) (m := m) hw (size2' _ _) hokm
          have xl : (("p" : Str) ++ PySem.Str.ofString (toString ((m.1 : Nat) : Int)) ++ ": ").length ≤ 9 := by
            rw [sapp_len, sapp_len, c1, c2]
            omega
          have rl : (repS (("p" : Str) ++ PySem.Str.ofString (toString ((m.1 : Nat) : Int)) ++ ": ") (if inV (.int ((m.1 : Nat) : Int)) (vInts (goalsOf ws)) = true then 1 else 0 : Int).toNat).length ≤ 9 := by
            rw [rep_bit]
            split
            · exact xl
            · rw [show ("" : Str).length = 0 by decide +kernel]; omega
          have er : rowS ws m = repS (("p" : Str) ++ PySem.Str.ofString (toString ((m.1 : Nat) : Int)) ++ ": ") (if inV (.int ((m.1 : Nat) : Int)) (vInts (goalsOf ws)) = true then 1 else 0 : Int).toNat ++ bodyT ws m := by
            rw [rep_bit, in_ints]
            rfl
          refine ⟨_, rfl, ((m.1 : Nat) : Int), rfl, log_of (by omega), _, _, rfl, rfl, line5 (by rw [c1]; omega), _, _, rfl, rfl, line5 (by rw [sapp_len, c1, c2]; omega), _, rfl, _, rfl, gl, _, rfl, .inl (SqL.of (g1 _ _ aG)), rfl, flat_ints _, .inr ⟨inV (.int ((m.1 : Nat) : Int)) (vInts (goalsOf ws)), rfl, _, _, rfl, rfl, by split <;> omega, by split <;> omega, by omega, _, rfl, _, _, rfl, rfl, line5 (by omega), ?_⟩⟩
          rw [← er]
          refine ⟨_, g2, line_lt (by rw [List.length_map, List.length_map, List.length_take]; omega), Same.mut g1 hBn, ?_⟩
          rw [upd_same, take_succ' hmi, List.map_append, List.map_append]
          rfl
        · rintro G ⟨g1, g2⟩
          rw [rrl, List.take_length] at g2
          have gS := Same.tup (Same.trans sa g1) hS
          have vl : (vInts ws).length = ws.length := List.length_map ..
          have pl := intT_tiny (i := ((ws.length : Nat) : Int)) (by omega)
          have pl' : (PySem.Str.ofString (toString ((ws.length : Nat) : Int))).length ≤ 6 := pl
          refine ⟨rfl, _, rfl, _, rfl, _, _, rfl, .inr ⟨_, gS, rfl⟩, _, rfl, ?_⟩
          have gG := g1 _ _ aG
          rw [vl]
          refine ⟨log_of (by omega), _, _, rfl, rfl, line5 (by rw [c1]; omega), _, _, rfl, rfl, line5 (by rw [sapp_len, c1, c3]; omega), line5 (by simp), fun B5 hB5 => ?_⟩
          have s5 : Same G (upd G B5 (.lst [V.str (("p" : Str) ++ PySem.Str.ofString (toString ((ws.length : Nat) : Int)) ++ ":")])) := Same.add hB5
          have e5 : (upd G B5 (.lst [V.str (("p" : Str) ++ PySem.Str.ofString (toString ((ws.length : Nat) : Int)) ++ ":")])) B5 = some (.lst [V.str (("p" : Str) ++ PySem.Str.ofString (toString ((ws.length : Nat) : Int)) ++ ":")]) := upd_same
          generalize upd G B5 (.lst [V.str (("p" : Str) ++ PySem.Str.ofString (toString ((ws.length : Nat) : Int)) ++ ":")]) = G5 at s5 e5 ⊢
          refine ⟨_, rfl, _, _, rfl, .inr ⟨_, Same.tup s5 gS, rfl⟩, _, rfl, gl, _, rfl, .inl (SqL.of (s5 _ _ gG)), rfl, flat_ints _, .inr ⟨inV (.int ((vInts ws).length : Nat)) (vInts (goalsOf ws)), rfl, B5, _, _, rfl, rfl, e5, by split <;> decide, by split <;> decide, by rw [List.length_singleton, Nat.one_mul]; split <;> decide, fun B6 hB6 => ?_⟩⟩
          rw [vl]
          have erep : (List.replicate (if inV (.int ((ws.length : Nat) : Int)) (vInts (goalsOf ws)) = true then 1 else 0 : Int).toNat [V.str (("p" : Str) ++ PySem.Str.ofString (toString ((ws.length : Nat) : Int)) ++ ":")]).flatten = (if decide ((ws.length : Int) ∈ goalsOf ws) = true then [endT ws.length] else []).map V.str := by
            rw [in_ints]
            cases decide ((ws.length : Int) ∈ goalsOf ws) <;> rfl
          rw [erep]
          have e5g := s5 _ _ g2
          have s6 : Same G5 (upd G5 B6 (.lst ((if decide ((ws.length : Int) ∈ goalsOf ws) = true then [endT ws.length] else []).map V.str))) := Same.add hB6
          have e6 : (upd G5 B6 (.lst ((if decide ((ws.length : Int) ∈ goalsOf ws) = true then [endT ws.length] else []).map V.str))) B6 = some (.lst ((if decide ((ws.length : Int) ∈ goalsOf ws) = true then [endT ws.length] else []).map V.str)) := upd_same
          generalize upd G5 B6 (.lst ((if decide ((ws.length : Int) ∈ goalsOf ws) = true then [endT ws.length] else []).map V.str)) = G6 at s6 e6 ⊢
          have sm := rows_sum (ws := ws) hw hl
          have nl : ("\n" : Str).length = 1 := by decide +kernel
          have erows : ((met ws).map (rowS ws)).map V.str ++ (if decide ((ws.length : Int) ∈ goalsOf ws) = true then [endT ws.length] else []).map V.str = (rowsS ws).map V.str := by
            unfold rowsS
            rw [List.map_append]
          refine ⟨B, B6, _, _, rfl, rfl, s6 _ _ e5g, e6, ?_, fun B7 hB7 => ?_⟩
          · have := congrArg List.length erows
            rw [List.length_append] at this
            rw [this, List.length_map]
            exact Nat.le_trans (show (rowsS ws).length ≤ 8000000 by omega) (by decide)
          · rw [erows]
            refine ⟨_, B7, rowsS ws, rfl, rfl, .inl (SqL.of upd_same), by rw [nl]; omega, ?_⟩
            exact q _ (Same.trans sa (Same.trans g1 (Same.trans s5 (Same.trans s6 (Same.add hB7)))))
abbrev KnLSh (P : Program) (w : World) (K : PySem.W.Frag) (mg : Str → Option Value) (base : Heap) : Prop := Kn P w K mg base CX0 4 "_law_shown" ["_law_image_here"] [] (spLSh K)
end
end Bm
set_option maxHeartbeats 1600000
namespace Bm
open PySem PySem.Spec PyProof.Rows L2
theorem Dp.same {K : PySem.W.Frag} {H H' : Hp} (e : Same H H') : ∀ {v : V} {d : PyData}, Dp K H v d → Dp K H' v d := by
  intro v d h
  refine Dp.rec (motive_1 := fun v d _ => Dp K H' v d) (motive_2 := fun vs ds _ => DpAll K H' vs ds) .non .bl .int .str (fun h _ ih => .lst (e.seq h) ih) (fun h _ ih => .tup (Same.tup e h) ih) .nil (fun _ _ h1 h2 => .cons h1 h2) h
theorem DpAll.at {K : PySem.W.Frag} {H : Hp} : ∀ {xs : List V} {ds : List PyData} {i : Nat} {d : PyData}, DpAll K H xs ds → ds[i]? = some d → ∃ v, xs[i]? = some v ∧ Dp K H v d
  | _, _, i, d, .nil, h => by simp at h
  | _, _, 0, d, .cons h1 _, h => ⟨_, rfl, by have e := Option.some.inj h; rw [← e]; exact h1⟩
  | _, _, i + 1, d, .cons _ h2, h => by
    obtain ⟨v, e1, e2⟩ := DpAll.at (i := i) (d := d) h2 h
    exact ⟨v, e1, e2⟩
theorem DpAll.len {K : PySem.W.Frag} {H : Hp} : ∀ {xs : List V} {ds : List PyData}, DpAll K H xs ds → xs.length = ds.length
  | _, _, .nil => rfl
  | _, _, .cons _ h => congrArg Nat.succ (DpAll.len h)
theorem kit_seq {K : PySem.W.Frag} {t : String} {b1 b2 : Bool} (h1 : kitB t "tuple" = some b1) (h2 : kitB t "list" = some b2) : PySem.W.kitAny K (.type t) [.type "tuple", .type "list"] = some (b1 || b2) :=
  kitAny_cons (kit_ty h1) (fun e => kitAny_cons (kit_ty h2) (fun e2 => by rw [e, e2]; rfl) (fun e2 => by rw [e, e2]; rfl)) (fun e => by rw [e]; rfl)
theorem two_cls : Paired ClsV [.ty "tuple", .ty "list"] [.type "tuple", .type "list"] := .cons (.ty _) (.cons (.ty _) .nil)
theorem depth_mem : ∀ {ds : List PyData} {d : PyData}, d ∈ ds → d.depth ≤ PyData.depthAll ds
  | x :: ds, d, h => by
    simp only [PyData.depthAll]
    rcases List.mem_cons.mp h with e | h
    · rw [e]; exact Nat.le_max_left _ _
    · exact Nat.le_trans (depth_mem h) (Nat.le_max_right _ _)
mutual
/-- no row of it is longer than it may be -/
def smallD : PyData → Prop
  | .list xs => xs.length ≤ 100000 ∧ smallA xs
  | .tuple xs => xs.length ≤ 100000 ∧ smallA xs
  | _ => True
def smallA : List PyData → Prop
  | [] => True
  | x :: xs => smallD x ∧ smallA xs
end
theorem smallA_mem : ∀ {ds : List PyData} {d : PyData}, smallA ds → d ∈ ds → smallD d
  | x :: ds, d, h, hm => by
    simp only [smallA] at h
    rcases List.mem_cons.mp hm with e | hm
    · rw [e]; exact h.1
    · exact smallA_mem h.2 hm
section
variable {P : Program} {w : World} {K : PySem.W.Frag} {mg : Str → Option Value} {base : Heap} {f : Addr} {fd : FuncData} {dvs : List V}
/-! _law_same, of the same data twice -/
def spSame (K : PySem.W.Frag) (n : Nat) : Sp := fun vs H Q _ => ∃ (x y : V) (d : PyData), vs = [x, y] ∧ Dp K H x d ∧ Dp K H y d ∧ d.depth < n ∧ smallD d ∧ ∀ H', Same H H' → Q (.bl true) H'
abbrev N__law_same : List Str := ["_law_found", "_law_due", "_law_alike", "_law_k"]
theorem sc__law_same : FnScope ["_law_found", "_law_due", "_law_alike", "_law_k"] ["_law_found", "_law_due"] (defScope s__law_same) := ⟨rfl, rfl, rfl, by decide +kernel, rfl, by decide +kernel, by decide +kernel⟩
theorem ok_same {n : Nat} (F : FunD K "_law_same" "_law_same" (defArgs s__law_same) (defBody s__law_same) (defScope s__law_same) dvs [] f fd) (g_isinstance : mg "isinstance" = none) (g_tuple : mg "tuple" = none) (g_list : mg "list" = none) (g_bool : mg "bool" = none) (g_int : mg "int" = none) (g_len : mg "len" = none) (g_range : mg "range" = none)
    (k__law_same : Kn P w K mg base CX0 n "_law_same" ["_law_found", "_law_due"] [] (spSame K n)) : FnOk P w K mg base CX0 (n + 1) f fd ["_law_found", "_law_due"] (spSame K (n + 1)) := by
  refine F.ok sc__law_same (fun vs H Q E h => ?_) (fun cdv A outer s H vs Q E hr h => ?_)
  · obtain ⟨x, y, d, rfl, _⟩ := h
    rfl
  · obtain ⟨x, y, d, rfl, hx, hy, hd, hsm, q⟩ := h
    refine ⟨_, PSs.nox (pss_cons (ps_if (pt_val (pe_callB call_isiT rfl g_isinstance (by decide +kernel) (pa_cons (pv 1) (pa_cons (pe_tup (pa_cons (pe_bltn (v := .ty "tuple") rfl g_tuple (by decide +kernel) rfl) (pa_cons (pe_bltn (v := .ty "list") rfl g_list (by decide +kernel) rfl) pa_nil))) pa_nil)))) (pss_cons (ps_if (PW.pt (pw_or (pt_not (pt_val (pe_callB call_isiT rfl g_isinstance (by decide +kernel) (pa_cons (pv 0) (pa_cons (pe_tup (pa_cons (pe_bltn (v := .ty "tuple") rfl g_tuple (by decide +kernel) rfl) (pa_cons (pe_bltn (v := .ty "list") rfl g_list (by decide +kernel) rfl) pa_nil))) pa_nil))))) (pw_or1 (pt_cmpR op_ne (pe_callB call_isi rfl g_isinstance (by decide +kernel) (pa_cons (pv 0) (pa_cons (pe_bltn (v := .ty "list") rfl g_list (by decide +kernel) rfl) pa_nil))) (pe_callB call_isi rfl g_isinstance (by decide +kernel) (pa_cons (pv 1) (pa_cons (pe_bltn (v := .ty "list") rfl g_list (by decide +kernel) rfl) pa_nil))) (nomark _))))) (pss_one (ps_ret pe_bl)) pss_nil)
      (pss_cons (ps_if (pt_cmpR op_ne (pe_callB call_len rfl g_len boot_len (pa_cons (pv 0) pa_nil)) (pe_callB call_len rfl g_len boot_len (pa_cons (pv 1) pa_nil)) (nomark _)) (pss_one (ps_ret pe_bl)) pss_nil)
      (pss_one (ps_ret (pe_cmpR (op_eqD hr.units) (pe_lc (own := [("_law_k", 3)]) (g := gName 3) rfl sc__law_same.nd (pi_range1 rfl g_range (pa_cons (pe_callB call_len rfl g_len boot_len (pa_cons (pv 1) pa_nil)) pa_nil)) (blkOk_by (own := [("_law_k", 3)]) (N := N__law_same) (sc := defScope s__law_same) (by decide +kernel)) (fun _ _ _ _ _ => (pg_name (i := 3) sc__law_same.nd rfl (Or.inl rfl))) (fun _ _ _ _ _ => (pts_one (pt_not (pt_val (pk k__law_same hr (by omega) rfl pass0 (pa_cons (pe_ix (show IxR _ (rIx K) from ix_seq) (pv 0) (pv 3) (fun _ _ => rfl)) (pa_cons (pe_ix (show IxR _ (rIx K) from ix_seq) (pv 1) (pv 3) (fun _ _ => rfl)) pa_nil))))))) (fun _ _ _ _ _ => (pv 3))) (pe_lst pa_nil) (nomark _)))))) pss_nil)
      (pss_cons (ps_set (i := 2) sc__law_same.nd rfl (Or.inl rfl) (pe_and (pe_cmpR op_eq (pe_callB call_isi rfl g_isinstance (by decide +kernel) (pa_cons (pv 0) (pa_cons (pe_bltn (v := .ty "bool") rfl g_bool (by decide +kernel) rfl) pa_nil))) (pe_callB call_isi rfl g_isinstance (by decide +kernel) (pa_cons (pv 1) (pa_cons (pe_bltn (v := .ty "bool") rfl g_bool (by decide +kernel) rfl) pa_nil))) (nomark _)) (pe_one (pe_cmpR op_eq (pe_callB call_isi rfl g_isinstance (by decide +kernel) (pa_cons (pv 0) (pa_cons (pe_bltn (v := .ty "int") rfl g_int (by decide +kernel) rfl) pa_nil))) (pe_callB call_isi rfl g_isinstance (by decide +kernel) (pa_cons (pv 1) (pa_cons (pe_bltn (v := .ty "int") rfl g_int (by decide +kernel) rfl) pa_nil))) (nomark _)))))
      (pss_one (ps_ret (pe_and (pv 2) (pe_one (pe_cmpR op_eq (pv 0) (pv 1) (nomark _)))))))), ?_⟩
    refine ⟨_, rfl, line5 (by simp), fun tp htp => ?_⟩
    have s1 : Same H (upd H tp (.tup [.ty "tuple", .ty "list"])) := Same.add htp
    have h1 : (upd H tp (.tup [.ty "tuple", .ty "list"])) tp = some (.tup [.ty "tuple", .ty "list"]) := upd_same
    generalize upd H tp (.tup [.ty "tuple", .ty "list"]) = H1 at s1 h1 ⊢
    have qq : ∀ b : Bool, b = true → Q (.bl b) H1 := fun b e => by rw [e]; exact q H1 s1
    cases hx with
      | non =>
        cases hy
        refine ⟨_, _, _, Value.type _, _, _, rfl, h1, two_cls, Knd.ty (.non), kit_seq (b1 := false) (b2 := false) (by decide +kernel) (by decide +kernel), _, rfl, iteF ?_⟩
        refine ⟨_, rfl, _, _, _, _, _, rfl, .ty _, Knd.ty (.non), kit_ty (r := false) (by decide +kernel), _, rfl, _, _, _, _, _, rfl, .ty _, Knd.ty (.non), kit_ty (r := false) (by decide +kernel), rfl, _, rfl, iteT ?_⟩
        refine ⟨_, rfl, _, _, _, _, _, rfl, .ty _, Knd.ty (.non), kit_ty (r := false) (by decide +kernel), _, rfl, _, _, _, _, _, rfl, .ty _, Knd.ty (.non), kit_ty (r := false) (by decide +kernel), rfl, ?_⟩
        exact ⟨_, rfl, _, rfl, iteT ⟨_, rfl, _, rfl, rfl, qq _ (decide_eq_true rfl)⟩⟩
      | bl b =>
        cases hy
        refine ⟨_, _, _, Value.type _, _, _, rfl, h1, two_cls, Knd.ty (.bl b), kit_seq (b1 := false) (b2 := false) (by decide +kernel) (by decide +kernel), _, rfl, iteF ?_⟩
        refine ⟨_, rfl, _, _, _, _, _, rfl, .ty _, Knd.ty (.bl b), kit_ty (r := true) (by decide +kernel), _, rfl, _, _, _, _, _, rfl, .ty _, Knd.ty (.bl b), kit_ty (r := true) (by decide +kernel), rfl, _, rfl, iteT ?_⟩
        refine ⟨_, rfl, _, _, _, _, _, rfl, .ty _, Knd.ty (.bl b), kit_ty (r := true) (by decide +kernel), _, rfl, _, _, _, _, _, rfl, .ty _, Knd.ty (.bl b), kit_ty (r := true) (by decide +kernel), rfl, ?_⟩
        exact ⟨_, rfl, _, rfl, iteT ⟨_, rfl, _, rfl, rfl, qq _ (decide_eq_true rfl)⟩⟩
      | int i =>
        cases hy
        refine ⟨_, _, _, Value.type _, _, _, rfl, h1, two_cls, Knd.ty (.int i), kit_seq (b1 := false) (b2 := false) (by decide +kernel) (by decide +kernel), _, rfl, iteF ?_⟩
        refine ⟨_, rfl, _, _, _, _, _, rfl, .ty _, Knd.ty (.int i), kit_ty (r := false) (by decide +kernel), _, rfl, _, _, _, _, _, rfl, .ty _, Knd.ty (.int i), kit_ty (r := false) (by decide +kernel), rfl, _, rfl, iteT ?_⟩
        refine ⟨_, rfl, _, _, _, _, _, rfl, .ty _, Knd.ty (.int i), kit_ty (r := true) (by decide +kernel), _, rfl, _, _, _, _, _, rfl, .ty _, Knd.ty (.int i), kit_ty (r := true) (by decide +kernel), rfl, ?_⟩
        exact ⟨_, rfl, _, rfl, iteT ⟨_, rfl, _, rfl, rfl, qq _ (decide_eq_true rfl)⟩⟩
      | str z =>
        cases hy
        refine ⟨_, _, _, Value.type _, _, _, rfl, h1, two_cls, Knd.ty (.str z), kit_seq (b1 := false) (b2 := false) (by decide +kernel) (by decide +kernel), _, rfl, iteF ?_⟩
        refine ⟨_, rfl, _, _, _, _, _, rfl, .ty _, Knd.ty (.str z), kit_ty (r := false) (by decide +kernel), _, rfl, _, _, _, _, _, rfl, .ty _, Knd.ty (.str z), kit_ty (r := false) (by decide +kernel), rfl, _, rfl, iteT ?_⟩
        refine ⟨_, rfl, _, _, _, _, _, rfl, .ty _, Knd.ty (.str z), kit_ty (r := false) (by decide +kernel), _, rfl, _, _, _, _, _, rfl, .ty _, Knd.ty (.str z), kit_ty (r := false) (by decide +kernel), rfl, ?_⟩
        exact ⟨_, rfl, _, rfl, iteT ⟨_, rfl, _, rfl, rfl, qq _ (decide_eq_true rfl)⟩⟩
      | lst hq ha =>
        rename_i xa xs ds
        cases hy with
        | lst hq2 ha2 =>
          rename_i ya ys
          have hl1 := DpAll.len ha
          have hl2 := DpAll.len ha2
          refine ⟨_, _, _, Value.type _, _, _, rfl, h1, two_cls, Knd.ty (.lst (s1.seq hq2)), kit_seq (b1 := false) (b2 := true) (by decide +kernel) (by decide +kernel), _, rfl, iteT ?_⟩
          refine ⟨_, rfl, line5 (by simp), fun tp2 htp2 => ?_⟩
          have s2 : Same H1 (upd H1 tp2 (.tup [.ty "tuple", .ty "list"])) := Same.add htp2
          have h2 : (upd H1 tp2 (.tup [.ty "tuple", .ty "list"])) tp2 = some (.tup [.ty "tuple", .ty "list"]) := upd_same
          generalize upd H1 tp2 (.tup [.ty "tuple", .ty "list"]) = H2 at s2 h2 ⊢
          have S2 : ∀ {a : Addr} {l : List V}, SqL K H a l → SqL K H2 a l := fun h => (Same.trans s1 s2).seq h
          refine ⟨_, _, _, Value.type _, _, _, rfl, h2, two_cls, Knd.ty (.lst (S2 hq)), kit_seq (b1 := false) (b2 := true) (by decide +kernel) (by decide +kernel), _, rfl, iteF ?_⟩
          refine ⟨_, rfl, _, _, _, _, _, rfl, .ty _, Knd.ty (.lst (S2 hq)), kit_ty (r := true) (by decide +kernel), _, rfl, _, _, _, _, _, rfl, .ty _, Knd.ty (.lst (S2 hq2)), kit_ty (r := true) (by decide +kernel), rfl, _, rfl, iteF ?_⟩
          refine ⟨_, rfl, _, _, rfl, .inl ⟨_, S2 hq, rfl⟩, _, rfl, _, _, rfl, .inl ⟨_, S2 hq2, rfl⟩, rfl, _, rfl, ?_⟩
          rw [show (!decide (V.int (xs.length : Int) = V.int (ys.length : Int))) = false by rw [hl1, hl2, decide_eq_true rfl]; rfl]
          refine iteF ?_
          simp only [smallD] at hsm
          have small : (ys.length : Int) < 2 ^ 62 := by
            have := hsm.1
            omega
          refine ⟨_, rfl, _, _, rfl, .inl ⟨_, S2 hq2, rfl⟩, _, rfl, by omega, small, fun D hD => ?_⟩
          have s12 := Same.trans s1 s2
          refine lc_range (lo := 0) (n := ((ys.length : Nat) : Int).toNat) (fun i H3 => Same H2 H3 ∧ H3 D = some (.lst [])) ⟨Same.add hD, upd_same⟩ ?_ ?_
          · rintro i H3 hi ⟨p1, p2⟩
            have hi : i < ys.length := by
              rw [Int.toNat_natCast] at hi
              exact hi
            have hid : i < ds.length := by omega
            obtain ⟨u, u1, u2⟩ := DpAll.at ha (List.getElem?_eq_getElem hid)
            obtain ⟨v, v1, v2⟩ := DpAll.at ha2 (List.getElem?_eq_getElem hid)
            have s03 := Same.trans s12 p1
            have S3 : ∀ {a : Addr} {l : List V}, SqL K H a l → SqL K H3 a l := fun h => s03.seq h
            have e0 : (0 : Int) + (i : Nat) = ((i : Nat) : Int) := by omega
            refine ⟨rfl, _, rfl, _, rfl, .inl ⟨_, _, _, _, rfl, rfl, S3 hq, (congrArg (atI xs) e0).trans (atI_nat u1), ?_⟩⟩
            · refine ⟨_, rfl, _, rfl, .inl ⟨_, _, _, _, rfl, rfl, S3 hq2, (congrArg (atI ys) e0).trans (atI_nat v1), ?_⟩⟩
              refine ⟨u, v, ds[i], rfl, Dp.same s03 u2, Dp.same s03 v2, ?_, smallA_mem hsm.2 (List.getElem_mem hid), fun H4 s4 => ⟨_, rfl, iteF ⟨Same.trans p1 s4, s4 _ _ p2⟩⟩⟩
              have hm := depth_mem (List.getElem_mem hid)
              simp only [PyData.depth] at hd
              omega
          · rintro H3 ⟨p1, p2⟩
            refine ⟨line5 (by simp), fun p4 hp4 => ?_⟩
            have s4 : Same H3 (upd H3 p4 (.lst [])) := Same.add hp4
            have h4 : (upd H3 p4 (.lst [])) p4 = some (.lst []) := upd_same
            generalize upd H3 p4 (.lst []) = H4 at s4 h4 ⊢
            refine ⟨.list [], .list [], .lst (SqL.of (s4 _ _ p2)) .nil, .lst (SqL.of h4) .nil, by decide +kernel, by decide +kernel, ?_⟩
            exact q _ (Same.trans s12 (Same.trans p1 s4))
      | tup hq ha =>
        rename_i xa xs ds
        cases hy with
        | tup hq2 ha2 =>
          rename_i ya ys
          have hl1 := DpAll.len ha
          have hl2 := DpAll.len ha2
          refine ⟨_, _, _, Value.type _, _, _, rfl, h1, two_cls, Knd.ty (.tup (Same.tup s1 hq2)), kit_seq (b1 := true) (b2 := false) (by decide +kernel) (by decide +kernel), _, rfl, iteT ?_⟩
          refine ⟨_, rfl, line5 (by simp), fun tp2 htp2 => ?_⟩
          have s2 : Same H1 (upd H1 tp2 (.tup [.ty "tuple", .ty "list"])) := Same.add htp2
          have h2 : (upd H1 tp2 (.tup [.ty "tuple", .ty "list"])) tp2 = some (.tup [.ty "tuple", .ty "list"]) := upd_same
          generalize upd H1 tp2 (.tup [.ty "tuple", .ty "list"]) = H2 at s2 h2 ⊢
          have S2 : ∀ {a : Addr} {l : List V}, SqT K H a l → SqT K H2 a l := fun h => Same.tup (Same.trans s1 s2) h
          refine ⟨_, _, _, Value.type _, _, _, rfl, h2, two_cls, Knd.ty (.tup (S2 hq)), kit_seq (b1 := true) (b2 := false) (by decide +kernel) (by decide +kernel), _, rfl, iteF ?_⟩
          refine ⟨_, rfl, _, _, _, _, _, rfl, .ty _, Knd.ty (.tup (S2 hq)), kit_ty (r := false) (by decide +kernel), _, rfl, _, _, _, _, _, rfl, .ty _, Knd.ty (.tup (S2 hq2)), kit_ty (r := false) (by decide +kernel), rfl, _, rfl, iteF ?_⟩
          refine ⟨_, rfl, _, _, rfl, .inr ⟨_, S2 hq, rfl⟩, _, rfl, _, _, rfl, .inr ⟨_, S2 hq2, rfl⟩, rfl, _, rfl, ?_⟩
          rw [show (!decide (V.int (xs.length : Int) = V.int (ys.length : Int))) = false by rw [hl1, hl2, decide_eq_true rfl]; rfl]
          refine iteF ?_
          simp only [smallD] at hsm
          have small : (ys.length : Int) < 2 ^ 62 := by
            have := hsm.1
            omega
          refine ⟨_, rfl, _, _, rfl, .inr ⟨_, S2 hq2, rfl⟩, _, rfl, by omega, small, fun D hD => ?_⟩
          have s12 := Same.trans s1 s2
          refine lc_range (lo := 0) (n := ((ys.length : Nat) : Int).toNat) (fun i H3 => Same H2 H3 ∧ H3 D = some (.lst [])) ⟨Same.add hD, upd_same⟩ ?_ ?_
          · rintro i H3 hi ⟨p1, p2⟩
            have hi : i < ys.length := by
              rw [Int.toNat_natCast] at hi
              exact hi
            have hid : i < ds.length := by omega
            obtain ⟨u, u1, u2⟩ := DpAll.at ha (List.getElem?_eq_getElem hid)
            obtain ⟨v, v1, v2⟩ := DpAll.at ha2 (List.getElem?_eq_getElem hid)
            have s03 := Same.trans s12 p1
            have S3 : ∀ {a : Addr} {l : List V}, SqT K H a l → SqT K H3 a l := fun h => Same.tup s03 h
            have e0 : (0 : Int) + (i : Nat) = ((i : Nat) : Int) := by omega
            refine ⟨rfl, _, rfl, _, rfl, .inr (.inl ⟨_, _, _, _, rfl, rfl, S3 hq, (congrArg (atI xs) e0).trans (atI_nat u1), ?_⟩)⟩
            · refine ⟨_, rfl, _, rfl, .inr (.inl ⟨_, _, _, _, rfl, rfl, S3 hq2, (congrArg (atI ys) e0).trans (atI_nat v1), ?_⟩)⟩
              refine ⟨u, v, ds[i], rfl, Dp.same s03 u2, Dp.same s03 v2, ?_, smallA_mem hsm.2 (List.getElem_mem hid), fun H4 s4 => ⟨_, rfl, iteF ⟨Same.trans p1 s4, s4 _ _ p2⟩⟩⟩
              have hm := depth_mem (List.getElem_mem hid)
              simp only [PyData.depth] at hd
              omega
          · rintro H3 ⟨p1, p2⟩
            refine ⟨line5 (by simp), fun p4 hp4 => ?_⟩
            have s4 : Same H3 (upd H3 p4 (.lst [])) := Same.add hp4
            have h4 : (upd H3 p4 (.lst [])) p4 = some (.lst []) := upd_same
            generalize upd H3 p4 (.lst []) = H4 at s4 h4 ⊢
            refine ⟨.list [], .list [], .lst (SqL.of (s4 _ _ p2)) .nil, .lst (SqL.of h4) .nil, by decide +kernel, by decide +kernel, ?_⟩
            exact q _ (Same.trans s12 (Same.trans p1 s4))
end
end Bm
set_option maxHeartbeats 1000000
/-! a list grows by a tuple's items -/
namespace Bm
open PySem PySem.Spec PyProof.Rows L2
theorem ext_tup (l : Addr) (xs : Array Value) (n : Nat) (c : Addr) (dd : Option Addr) (sl : Array (Option Value)) (ys : Array Value) (m : Nat) (h0 : ¬(!xs.isEmpty && Builtin.List.listTooLong (xs.size + ys.size)) = true) (h1 : xs.size ≤ sizeLine) (h2 : xs.size + ys.size ≤ sizeLine + 1) :
    Meets (Builtin.«list.extend» ⟨[.ref l, .ref c], []⟩) (fun _ R s => s.heap.get? l = some { cls := .type "list", data := .seq xs n } ∧ s.heap.get? c = some { cls := .type "tuple", dict := dd, data := .seq ys m, slots := sl } ∧
      R (.ok (.ret Value.none)) { s with heap := s.heap.update l (Obj.mapSeq fun x => x ++ ys), toks := s.toks }) :=
  .of_wp fun P W A R s w => by
    obtain ⟨hp, gs, dr, tk, os⟩ := s
    obtain ⟨gl, gc, w⟩ := w
    have i1 := AutoSeq1.idx_int
    have i2 := AutoSeq1.sub_tuple_tuple
    have i3 := AutoSeq1.sub_list_list
    have i4 := AutoSeq1.sub_tuple_list
    have i5 := AutoSeq1.sub_list_tuple
    have z : (xs ++ ys).size ≤ sizeLine + 1 := by rw [Array.size_append]; exact h2
    wp_walk using (wpAny_updateSeq gl rfl (hz := h1) (_hz' := z)), wpAny_loadPart' gl, wpAny_loadPart' gc
    exact ⟨_, rfl, w⟩
/-- l.extend(t), t a tuple -/
def rExtT (K : PySem.W.Frag) : V → List V → Hp → VK → Prop := fun x vs H Q => ∃ l b xs zs, x = .ref l ∧ vs = [.ref b] ∧ H l = some (.lst xs) ∧ SqT K H b zs ∧ xs.length + zs.length ≤ 100000 ∧ Q .non (upd H l (.lst (xs ++ zs)))
theorem mt_extT {X : Cx} : MtR X "list.extend" (rExtT X.K) := by
  intro pins s σ H x vs v us Q I rx rv w
  obtain ⟨l, b, xs, zs, rfl, rfl, gl, gt, len, q⟩ := w
  cases rx
  obtain ⟨u, rfl, ru⟩ := rv.one
  cases ru
  obtain ⟨z, its, n, r, hl, e⟩ := I.lstM gl
  obtain ⟨jts, r2, ⟨⟨cl, dd, dat, sl⟩, g2, g3, m, g4⟩, hz2⟩ := I.tuple gt
  simp only at g3 g4
  subst g3 g4
  have hs : (100000 : Nat) ≤ sizeLine := by decide
  have hl2 := r2.length
  have sz : its.toArray.size + jts.toArray.size ≤ sizeLine := by rw [List.size_toArray, List.size_toArray]; omega
  have nl : ¬ (!its.toArray.isEmpty && Builtin.List.listTooLong (its.toArray.size + jts.toArray.size)) = true := by
    rw [notLongL sz, Bool.and_false]
    exact Bool.false_ne_true
  refine call_meets F.slot_list_extend ⟨_, e, rfl⟩ F.entry_list_extend (F.args_list_extend_2 _ _) (ext_tup l its.toArray n b dd sl jts.toArray m nl (by rw [List.size_toArray]; omega) (by omega)) ⟨e, g2, ?_⟩
  refine ⟨.non, _, I.lset (its' := its ++ jts) gl e (by simp) (r.append r2) ?_, rfl, q⟩
  rw [List.length_append]
  omega
end Bm
set_option maxHeartbeats 1600000
namespace Bm
open PySem PySem.Spec PyProof.Rows L2
theorem words_two (d : De) (p : Int) : (d.words p).length ≤ 2 := by
  cases d with
  | jump k g f => cases f <;> first | exact Nat.le_refl 2 | exact Nat.le_succ 1
  | call g f => cases f <;> first | exact Nat.le_refl 2 | exact Nat.le_succ 1
  | _ => exact Nat.le_succ 1
theorem words_one (d : De) (p : Int) : 0 < (d.words p).length := by
  cases d with
  | jump k g f => cases f <;> exact Nat.succ_pos _
  | call g f => cases f <;> exact Nat.succ_pos _
  | _ => exact Nat.succ_pos _
theorem words_fit (d : De) (p : Int) (h : d.ok) : ∀ x ∈ d.words p, 0 ≤ x ∧ x < 65536 := by
  have one : ∀ {y : Int}, 0 ≤ y ∧ y < 65536 → ∀ x ∈ [y], 0 ≤ x ∧ x < 65536 := fun e x hx => by rw [List.mem_singleton.mp hx]; exact e
  have two : ∀ {y z : Int}, 0 ≤ y ∧ y < 65536 → 0 ≤ z ∧ z < 65536 → ∀ x ∈ [y, z], 0 ≤ x ∧ x < 65536 := fun e f x hx => by
    rcases List.mem_cons.mp hx with rfl | hx
    · exact e
    · rw [List.mem_singleton.mp hx]; exact f
  cases d with
  | sgl k => exact one (by have : k < 3 := h; show 0 ≤ (k : Int) * 512 ∧ (k : Int) * 512 < 65536; omega)
  | reg k a => exact one (by obtain ⟨h1, h2, h3⟩ := h; have h3 : 0 ≤ a ∧ a ≤ 7 := h3; show 0 ≤ (k : Int) * 512 + a * 64 ∧ (k : Int) * 512 + a * 64 < 65536; omega)
  | sum k d a b => exact one (by obtain ⟨h1, h2, h3, h4⟩ := h; have h2 : 0 ≤ d ∧ d ≤ 7 := h2; have h3 : 0 ≤ a ∧ a ≤ 7 := h3; have h4 : 0 ≤ b ∧ b ≤ 7 := h4; show 0 ≤ 4096 + d * 512 + a * 64 + b * 8 + (k : Int) ∧ 4096 + d * 512 + a * 64 + b * 8 + (k : Int) < 65536; omega)
  | plus d a n => exact one (by obtain ⟨h2, h3, h4⟩ := h; have h2 : 0 ≤ d ∧ d ≤ 7 := h2; have h3 : 0 ≤ a ∧ a ≤ 7 := h3; show 0 ≤ 8192 + d * 512 + a * 64 + n % 64 ∧ 8192 + d * 512 + a * 64 + n % 64 < 65536; omega)
  | set d n => exact one (by obtain ⟨h2, h4⟩ := h; have h2 : 0 ≤ d ∧ d ≤ 7 := h2; show 0 ≤ 12288 + d * 512 + n ∧ 12288 + d * 512 + n < 65536; omega)
  | high d n => exact one (by obtain ⟨h2, h4⟩ := h; have h2 : 0 ≤ d ∧ d ≤ 7 := h2; show 0 ≤ 16384 + d * 512 + n ∧ 16384 + d * 512 + n < 65536; omega)
  | load d a n => exact one (by obtain ⟨h2, h3, h4⟩ := h; have h2 : 0 ≤ d ∧ d ≤ 7 := h2; have h3 : 0 ≤ a ∧ a ≤ 7 := h3; show 0 ≤ 20480 + d * 512 + a * 64 + n ∧ 20480 + d * 512 + a * 64 + n < 65536; omega)
  | store d a n => exact one (by obtain ⟨h2, h3, h4⟩ := h; have h2 : 0 ≤ d ∧ d ≤ 7 := h2; have h3 : 0 ≤ a ∧ a ≤ 7 := h3; show 0 ≤ 24576 + d * 512 + a * 64 + n ∧ 24576 + d * 512 + a * 64 + n < 65536; omega)
  | jump k g f =>
    obtain ⟨h1, h2⟩ := h
    cases f with
    | true => exact two (by omega) (by omega)
    | false => exact one (by show 0 ≤ 28672 + (k : Int) * 512 + (g - p - 1) % 32 ∧ 28672 + (k : Int) * 512 + (g - p - 1) % 32 < 65536; omega)
  | call g f =>
    have h : 0 ≤ g ∧ g ≤ 65535 := h
    cases f with
    | true => exact two (by omega) (by omega)
    | false => exact one (by show 0 ≤ 36864 + (g - p - 1) % 32 ∧ 36864 + (g - p - 1) % 32 < 65536; omega)
section
variable {P : Program} {w : World} {K : PySem.W.Frag} {mg : Str → Option Value} {base : Heap} {f : Addr} {fd : FuncData} {dvs : List V} {odd : List Str}
/-! _law_image -/
def wordsOk (ws : List Int) : Prop := ∀ x ∈ ws, 0 ≤ x ∧ x < 65536
def spLImg (K : PySem.W.Frag) : Sp := fun vs H Q _ => ∃ (S : Sk) (m : Nat), vs = [.ref S.st, .int (m : Nat)] ∧ St K H S ∧ 0 < m ∧ m ≤ 1000 ∧ ∀ r ws H', Kp K S H H' → SqT K H' r (vInts ws) → wordsOk ws → 0 < ws.length → ws.length ≤ m + 2 → Q (.ref r) H'
abbrev N__law_image : List Str := ["_law_state", "_law_most", "_law_many", "_law_found", "_law_wild"]
theorem sc__law_image : FnScope ["_law_state", "_law_most", "_law_many", "_law_found", "_law_wild"] ["_law_state", "_law_most"] (defScope s__law_image) := ⟨rfl, rfl, rfl, by decide +kernel, rfl, by decide +kernel, by decide +kernel⟩
theorem ok_limg (F : FunD K "_law_image" "_law_image" (defArgs s__law_image) (defBody s__law_image) (defScope s__law_image) dvs [] f fd) (k__law_drawn : KnDr P w K mg base) (k__law_deed : Kn P w K mg base CX0 3 "_law_deed" ["_law_state", "_law_place", "_law_most"] [] (spLDeed K))
    (k__law_words : Kn P w K mg base CX0 2 "_law_words" ["_law_deed_here", "_law_place"] [] (spLWords K)) (g_len : mg "len" = none) (g_tuple : mg "tuple" = none) : FnOk P w K mg base CX0 4 f fd ["_law_state", "_law_most"] (spLImg K) := by
  refine F.ok sc__law_image (fun vs H Q E h => ?_) (fun cdv A outer s H vs Q E hr h => ?_)
  · obtain ⟨S, m, rfl, _⟩ := h
    rfl
  · obtain ⟨S, m, rfl, hst, m0, m1, q⟩ := h
    refine ⟨_, PSs.nox (pss_cons (ps_set (i := 2) sc__law_image.nd rfl (Or.inl rfl) (pe_op op_add pe_int (pk k__law_drawn hr (by decide) rfl pass0 (pa_cons (pv 0) (pa_cons (pv 1) pa_nil)))))
      (pss_cons (ps_set (i := 3) sc__law_image.nd rfl (Or.inl rfl) (pe_lst pa_nil))
      (pss_cons (ps_set (i := 4) sc__law_image.nd rfl (Or.inl rfl) (pe_ix ix_list (pe_lst (pa_cons pe_int (pa_cons pe_int (pa_cons pe_int pa_nil)))) (pk k__law_drawn hr (by decide) rfl pass0 (pa_cons (pv 0) (pa_cons pe_int pa_nil))) (fun _ _ => rfl)))
      (pss_cons (ps_while PassesOwn.never (pt_cmpR op_lt (pe_callB call_len rfl g_len boot_len (pa_cons (pv 3) pa_nil)) (pv 2) (nomark _)) (pss_one (ps_if (PW.pt (pw_and (pt_cmpR op_gt (pv 4) pe_int (nomark _)) (pw_and1 (pt_cmpR op_eq (pk k__law_drawn hr (by decide) rfl pass0 (pa_cons (pv 0) (pa_cons (pv 4) pa_nil))) pe_int (nomark _))))) (pss_one (ps_expr (pe_bm PySem.F.plainAttrs_list PySem.F.slot_list_append PySem.F.type_list_append mt_append (pv 3) (pa_cons (pk k__law_drawn hr (by decide) rfl pass0 (pa_cons (pv 0) (pa_cons pe_int pa_nil))) pa_nil)))) (pss_one (ps_expr (pe_bm PySem.F.plainAttrs_list PySem.F.slot_list_extend PySem.F.type_list_extend mt_extT (pv 3) (pa_cons (pk k__law_words hr (by decide) rfl pass0 (pa_cons (pk k__law_deed hr (by decide) rfl pass0 (pa_cons (pv 0) (pa_cons (pe_callB call_len rfl g_len boot_len (pa_cons (pv 3) pa_nil)) (pa_cons (pv 2) pa_nil)))) (pa_cons (pe_callB call_len rfl g_len boot_len (pa_cons (pv 3) pa_nil)) pa_nil))) pa_nil)))))))
      (pss_one (ps_ret (pe_callTy call_tuple_of rfl g_tuple (by decide +kernel) (pa_cons (pv 3) pa_nil)))))))), ?_⟩
    refine ⟨_, rfl, _, rfl, S, m, rfl, hst, by omega, by omega, fun r1 H1 r10 r11 k1 => ⟨_, _, rfl, rfl, line5 (by simp), fun fo hfo => ?_⟩⟩
    obtain ⟨ls1, hls1⟩ := k1.st.lst
    have nfo : fo ≠ S.st := Ne.symm (ne_of_none hls1 hfo)
    have hfoH : H fo = none := k1.free hfo
    have s2 : Same H1 (upd H1 fo (.lst [])) := Same.add hfo
    have e2 : (upd H1 fo (.lst [])) fo = some (.lst []) := upd_same
    generalize upd H1 fo (.lst []) = H2 at s2 e2 ⊢
    have k2 := k1.same s2
    refine ⟨line5 (by simp), fun pl hpl => ?_⟩
    obtain ⟨ls2, hls2⟩ := k2.st.lst
    have npl : pl ≠ S.st := Ne.symm (ne_of_none hls2 hpl)
    have s3 : Same H2 (upd H2 pl (.lst [.int 0, .int 0, .int 4])) := Same.add hpl
    have e3 : (upd H2 pl (.lst [.int 0, .int 0, .int 4])) pl = some (.lst [.int 0, .int 0, .int 4]) := upd_same
    generalize upd H2 pl (.lst [.int 0, .int 0, .int 4]) = H3 at s3 e3 ⊢
    have k3 := k2.same s3
    refine ⟨_, rfl, S, 3, rfl, k3.st, by decide, by decide, fun r3 H4 r30 r31 k4 => ?_⟩
    obtain ⟨wd, hwd, hwd2⟩ : ∃ wd : Int, atI [V.int 0, .int 0, .int 4] r3 = some (.int wd) ∧ (wd = 0 ∨ wd = 4) := by
      obtain ⟨k, rfl, hk⟩ := nat_of r30 r31
      have hk : k < 3 := hk
      have : k = 0 ∨ k = 1 ∨ k = 2 := by omega
      rcases this with rfl | rfl | rfl
      · exact ⟨0, atI_nat rfl, .inl rfl⟩
      · exact ⟨0, atI_nat rfl, .inl rfl⟩
      · exact ⟨4, atI_nat rfl, .inr rfl⟩
    refine ⟨_, _, _, _, rfl, rfl, k4.lst npl (SqL.of e3), hwd, ?_⟩
    have k04 := k3.trans k4
    have hf4 : H4 fo = some (.lst (vInts [])) := k4.but _ _ nfo (s3 _ _ e2)
    obtain ⟨M, rfl⟩ : ∃ M : Nat, r1 = (M : Int) - 1 := ⟨(1 + r1).toNat, by omega⟩
    have hM0 : 0 < M ∧ M ≤ m := by omega
    refine ⟨fun n σ H' => ∃ (ws : List Int), σ = [some (.ref S.st), some (.int (m : Nat)), some (.int (1 + ((M : Int) - 1))), some (.ref fo), some (.int wd)] ∧ Kp K S H H' ∧ H' fo = some (.lst (vInts ws)) ∧ wordsOk ws ∧ ws.length ≤ M + 1 ∧ n = M + 2 - ws.length, ⟨_, [], rfl, k04, hf4, (fun x hx => by cases hx), by simp, rfl⟩, ?_⟩
    rintro n σ H5 ⟨ws, rfl, k5, hf5, ok5, l5, rfl⟩
    have el : (vInts ws).length = ws.length := List.length_map ..
    refine ⟨_, rfl, _, _, rfl, .inl ⟨_, SqL.of hf5, rfl⟩, _, rfl, _, _, rfl, rfl, _, rfl, ?_⟩
    by_cases cw : ((vInts ws).length : Int) < 1 + ((M : Int) - 1)
    · rw [decide_eq_true cw]
      rw [el] at cw
      refine ⟨fun σ' H' => ∃ m', m' < M + 2 - ws.length ∧ ∃ (ws : List Int), σ' = [some (.ref S.st), some (.int (m : Nat)), some (.int (1 + ((M : Int) - 1))), some (.ref fo), some (.int wd)] ∧ Kp K S H H' ∧ H' fo = some (.lst (vInts ws)) ∧ wordsOk ws ∧ ws.length ≤ M + 1 ∧ m' = M + 2 - ws.length, fun _ _ h => h, ?_⟩
      refine ⟨_, rfl, _, _, rfl, rfl, _, rfl, ?_⟩
      rcases hwd2 with rfl | rfl
      · rw [show decide ((0 : Int) < 0) = false by decide]
        refine iteF ?_
        refine ⟨_, rfl, .inl ⟨rfl, _, SqL.of hf5⟩, _, rfl, _, rfl, _, _, rfl, .inl ⟨_, SqL.of hf5, rfl⟩, _, rfl, S, _, _, rfl, k5.st, by omega, by omega, fun d qd Hd hok _ _ kd ed => ?_⟩
        have hfd : Hd fo = some (.lst (vInts ws)) := kd.but _ _ nfo hf5
        refine ⟨_, rfl, _, _, rfl, .inl ⟨_, SqL.of hfd, rfl⟩, qd, d, _, rfl, SqT.of ed, hok, fun qw Hw sw ew => ?_⟩
        have hfw := sw _ _ hfd
        have lw := words_two d ((vInts ws).length : Int)
        have lo := words_one d ((vInts ws).length : Int)
        have lq : (vInts (d.words ((vInts ws).length : Int))).length = (d.words ((vInts ws).length : Int)).length := List.length_map ..
        have ow := words_fit d ((vInts ws).length : Int) hok
        have kw := (k5.trans kd).same sw
        refine ⟨fo, qw, _, _, rfl, rfl, hfw, SqT.of ew, by omega, ?_⟩
        refine ⟨_, ?_, ws ++ d.words ((vInts ws).length : Int), rfl, kw.mut hfoH, ?_, fun x hx => ?_, by rw [List.length_append]; omega, rfl⟩
        · rw [List.length_append]
          omega
        · rw [upd_same]
          unfold vInts
          rw [List.map_append]
        · rcases List.mem_append.mp hx with hx | hx
          · exact ok5 x hx
          · exact ow x hx
      · rw [show decide ((0 : Int) < 4) = true by decide]
        refine iteT ⟨_, rfl, _, rfl, S, 4, rfl, k5.st, by decide, by decide, fun r4 H6 _ _ k6 => ⟨rfl, _, rfl, ?_⟩⟩
        have hf6 : H6 fo = some (.lst (vInts ws)) := k6.but _ _ nfo hf5
        have k06 := k5.trans k6
        by_cases c4 : r4 = 0
        · rw [decide_eq_true (congrArg V.int c4)]
          refine iteT ⟨_, rfl, .inl ⟨rfl, _, SqL.of hf6⟩, _, rfl, S, 65536, rfl, k6.st, by decide, by decide, fun z H7 a0 a1 k7 => ?_⟩
          have hfb : H7 fo = some (.lst (vInts ws)) := k7.but _ _ nfo hf6
          refine ⟨fo, _, _, rfl, rfl, hfb, line_lt (by rw [el]; omega), ?_⟩
          refine ⟨_, ?_, ws ++ [z], rfl, (k06.trans k7).mut hfoH, ?_, fun x hx => ?_, by rw [List.length_append, List.length_singleton]; omega, rfl⟩
          · rw [List.length_append, List.length_singleton]
            omega
          · rw [upd_same]
            unfold vInts
            rw [List.map_append]
            rfl
          · rcases List.mem_append.mp hx with hx | hx
            · exact ok5 x hx
            · rw [List.mem_singleton.mp hx]
              exact ⟨a0, a1⟩
        rw [decide_eq_false (fun z => c4 (V.int.inj z))]
        refine iteF ?_
        refine ⟨_, rfl, .inl ⟨rfl, _, SqL.of hf6⟩, _, rfl, _, rfl, _, _, rfl, .inl ⟨_, SqL.of hf6, rfl⟩, _, rfl, S, _, _, rfl, k06.st, by omega, by omega, fun d qd Hd hok _ _ kd ed => ?_⟩
        have hfd : Hd fo = some (.lst (vInts ws)) := kd.but _ _ nfo hf6
        refine ⟨_, rfl, _, _, rfl, .inl ⟨_, SqL.of hfd, rfl⟩, qd, d, _, rfl, SqT.of ed, hok, fun qw Hw sw ew => ?_⟩
        have hfw := sw _ _ hfd
        have lw := words_two d ((vInts ws).length : Int)
        have lo := words_one d ((vInts ws).length : Int)
        have lq : (vInts (d.words ((vInts ws).length : Int))).length = (d.words ((vInts ws).length : Int)).length := List.length_map ..
        have ow := words_fit d ((vInts ws).length : Int) hok
        have kw := (k06.trans kd).same sw
        refine ⟨fo, qw, _, _, rfl, rfl, hfw, SqT.of ew, by omega, ?_⟩
        refine ⟨_, ?_, ws ++ d.words ((vInts ws).length : Int), rfl, kw.mut hfoH, ?_, fun x hx => ?_, by rw [List.length_append]; omega, rfl⟩
        · rw [List.length_append]
          omega
        · rw [upd_same]
          unfold vInts
          rw [List.map_append]
        · rcases List.mem_append.mp hx with hx | hx
          · exact ok5 x hx
          · exact ow x hx
    · rw [decide_eq_false cw]
      rw [el] at cw
      have w0 : 0 < ws.length := by omega
      refine iteF ?_
      refine ⟨_, rfl, _, _, rfl, .inl ⟨SqL.of hf5, fun l hl => ?_⟩⟩
      exact q l ws _ (k5.add hl) (SqT.of upd_same) ok5 w0 (by omega)
end
end Bm
set_option maxHeartbeats 800000
namespace Bm
open PySem PySem.Spec PyProof.Rows L2
theorem okw_isW {x : Int} (h : 0 ≤ x ∧ x < 65536) : isW x = true := by
  show (decide ((0 : Int) ≤ x) && decide (x ≤ 65535)) = true
  rw [decide_eq_true h.1, decide_eq_true (by omega)]
  rfl
def twoD (x : Str) : PyData := .list [.str x, .str x]
theorem twoD_ok (x : Str) : (twoD x).depth < 4 ∧ smallD (twoD x) := by
  unfold twoD
  constructor
  · simp [PyData.depth, PyData.depthAll]
  · simp [smallD, smallA]
theorem dp_list : ∀ {K : PySem.W.Frag} {H : Hp} (l : List Int), DpAll K H (l.map V.int) (l.map PyData.int)
  | _, _, [] => .nil
  | _, _, x :: l => .cons (.int x) (dp_list l)
theorem lay_list : ∀ l : List Int, PyData.canLayAll0 (l.map PyData.int) = true ∧ PyData.depthAll (l.map PyData.int) ≤ 1
  | [] => by simp [PyData.canLayAll0, PyData.depthAll]
  | x :: l => by
    obtain ⟨h1, h2⟩ := lay_list l
    simp only [List.map_cons, PyData.canLayAll0, PyData.depthAll, h1, PyData.canLay0, PyData.depth]
    exact ⟨rfl, Nat.max_le.mpr ⟨by omega, h2⟩⟩
theorem shaped_list (l : List Int) : SeqAt.shaped (.list (l.map PyData.int)) = true := by
  obtain ⟨h1, h2⟩ := lay_list l
  unfold SeqAt.shaped
  simp only [PyData.canLay0, PyData.depth, h1, Bool.true_and]
  exact decide_eq_true (by omega)
theorem eqv_list (l : List Int) : (PyData.list (l.map PyData.int)).eqv (.list (l.map PyData.int)) = true := by
  have h : ∀ l : List Int, PyData.eqvAll (l.map PyData.int) (l.map PyData.int) = true := fun l => by
    induction l with
    | nil => simp [PyData.eqvAll]
    | cons x l ih => simp [PyData.eqvAll, PyData.eqv, ih]
  simp [PyData.eqv, h]
section
variable {P : Program} {w : World} {K : PySem.W.Frag} {mg : Str → Option Value} {base : Heap} {f : Addr} {fd : FuncData} {dvs : List V}
def spLaw (K : PySem.W.Frag) : Sp := fun vs H Q _ => ∃ (a : Addr) (ns : List Int), vs = [.ref a] ∧ SqL K H a (ns.map V.int) ∧ ns.length ≤ 63 ∧ ∀ H', Q (.bl true) H'
abbrev N_law : List Str := ["_law_script", "_law_state", "_law_turn", "_law_image_here", "_law_handed", "_law_again", "_law_found"]
theorem sc_law : FnScope ["_law_script", "_law_state", "_law_turn", "_law_image_here", "_law_handed", "_law_again", "_law_found"] ["_law_script"] (defScope s_law) := ⟨rfl, rfl, rfl, by decide +kernel, rfl, by decide +kernel, by decide +kernel⟩
theorem ok_law (F : FunD K "law" "law" (defArgs s_law) (defBody s_law) (defScope s_law) dvs [] f fd)
    (k__law_start : Kn P w K mg base CX0 1 "_law_start" ["_law_script"] [] (spStart K)) (k__law_drawn : KnDr P w K mg base) (k__law_image : Kn P w K mg base CX0 4 "_law_image" ["_law_state", "_law_most"] [] (spLImg K))
    (k_shown : KnShown P w K mg base) (k__law_shown : KnLSh P w K mg base)
    (k__law_same : Kn P w K mg base CX0 4 "_law_same" ["_law_found", "_law_due"] [] (spSame K 4)) (g_range : mg "range" = none) (g_list : mg "list" = none) : FnOk P w K mg base CX0 8 f fd ["_law_script"] (spLaw K) := by
  refine F.ok sc_law (fun vs H Q E h => ?_) (fun cdv A0 outer s H vs Q E hr h => ?_)
  · obtain ⟨a, ns, rfl, _⟩ := h
    rfl
  · obtain ⟨a, ns, rfl, hS, hn, q⟩ := h
    refine ⟨_, PSs.nox (pss_cons (ps_set (i := 1) sc_law.nd rfl (Or.inl rfl) (pk k__law_start hr (by decide) rfl pass0 (pa_cons (pv 0) pa_nil)))
      (pss_cons (ps_for PassesOwn.never rfl (pi_range1 rfl g_range (pa_cons pe_int pa_nil)) (pg_name (i := 2) sc_law.nd rfl (Or.inl rfl))
      (pss_cons (ps_set (i := 3) sc_law.nd rfl (Or.inl rfl) (pe_ifExp (pt_cmpR op_gt (pk k__law_drawn hr (by decide) rfl pass0 (pa_cons (pv 1) (pa_cons pe_int pa_nil))) pe_int (nomark _)) (pk k__law_image hr (by decide) rfl pass0 (pa_cons (pv 1) (pa_cons (pe_ix ix_list (pe_lst (pa_cons pe_int (pa_cons pe_int (pa_cons pe_int pa_nil)))) (pv 2) (fun _ _ => rfl)) pa_nil))) (pe_tup pa_nil)))
      (pss_cons (ps_set (i := 4) sc_law.nd rfl (Or.inl rfl) (pe_callTy call_list_of rfl g_list (by decide +kernel) (pa_cons (pv 3) pa_nil)))
      (pss_one (ps_for PassesOwn.never rfl (pi_range1 rfl g_range (pa_cons pe_int pa_nil)) (pg_name (i := 5) sc_law.nd rfl (Or.inl rfl))
      (pss_cons (ps_set (i := 6) sc_law.nd rfl (Or.inl rfl) (pe_lst (pa_cons (pk k_shown hr (by decide) rfl pass0 (pa_cons (pv 4) pa_nil)) (pa_cons (pk k_shown hr (by decide) rfl pass0 (pa_cons (pv 3) pa_nil)) pa_nil))))
      (pss_one (ps_if (PW.pt (pw_or (pt_not (pt_val (pk k__law_same hr (by decide) rfl pass0 (pa_cons (pv 6) (pa_cons (pe_op op_rep (pe_lst (pa_cons (pk k__law_shown hr (by decide) rfl pass0 (pa_cons (pv 3) pa_nil)) pa_nil)) pe_int) pa_nil))))) (pw_or1 (pt_cmpR (op_neD hr.units) (pv 4) (pe_callTy call_list_of rfl g_list (by decide +kernel) (pa_cons (pv 3) pa_nil)) (nomark _))))) (pss_one (ps_ret pe_bl)) pss_nil))))))))
      (pss_one (ps_ret pe_bl)))), ?_⟩
    refine ⟨_, rfl, a, ns, rfl, hS, hn, fun st H1 _ s1 hst => ?_⟩
    obtain ⟨S, hSs⟩ : ∃ S : Sk, S = ⟨st, a, ns⟩ := ⟨_, rfl⟩
    have est : S.st = st := by rw [hSs]
    rw [← hSs] at hst
    rw [← est]
    refine ⟨_, rfl, by decide, by decide, for_range (n := 3) (fun n σ G => ∃ v2 v3 v4 v5 v6 : Option V, σ = [some (.ref a), some (.ref S.st), v2, v3, v4, v5, v6] ∧ St K G S) ⟨none, none, none, none, none, rfl, hst⟩ ?_ ?_⟩
    · rintro n σ G hn ⟨v2, v3, v4, v5, v6, rfl, st0⟩
      have hn : n < 3 := hn
      obtain ⟨mm, hmm, mm0, mm1⟩ : ∃ mm : Nat, atI [V.int 5, V.int 20, V.int 60] (0 + (n : Nat)) = some (.int (mm : Nat)) ∧ 0 < mm ∧ mm ≤ 60 := by
        have hc : n = 0 ∨ n = 1 ∨ n = 2 := by omega
        rcases hc with rfl | rfl | rfl
        · exact ⟨5, atI_nat (j := 0) rfl, by decide, by decide⟩
        · exact ⟨20, atI_nat (j := 1) rfl, by decide, by decide⟩
        · exact ⟨60, atI_nat (j := 2) rfl, by decide, by decide⟩
      refine ⟨_, rfl, S, 9, rfl, st0, by decide, by decide, fun r0 Ga r00 r01 ka => ?_⟩
      refine ⟨_, _, rfl, rfl, _, rfl, ?_⟩
      refine joinV (Z := ?Z) (G := fun x Gb => ∃ (p : Addr) (ws : List Int), x = .ref p ∧ Kp K S G Gb ∧ SqT K Gb p (vInts ws) ∧ wordsOk ws ∧ ws.length ≤ 200) ?tail fun tail => ?both
      case both =>
        by_cases c : (0 : Int) < r0
        · rw [decide_eq_true c]
          refine iteT ⟨_, rfl, line5 (by simp), fun l1 hl1 => ?_⟩
          have sc : Same Ga (upd Ga l1 (.lst [V.int 5, V.int 20, V.int 60])) := Same.add hl1
          have ec : (upd Ga l1 (.lst [V.int 5, V.int 20, V.int 60])) l1 = some (.lst [V.int 5, V.int 20, V.int 60]) := upd_same
          generalize upd Ga l1 (.lst [V.int 5, V.int 20, V.int 60]) = Gc at sc ec ⊢
          refine ⟨_, rfl, l1, _, _, _, rfl, rfl, SqL.of ec, hmm, S, mm, rfl, ka.st.same sc, mm0, by omega, fun pw ws Gb kb hpw hws ws0 hwl => ?_⟩
          generalize hx : V.ref pw = x
          exact tail x Gb ⟨pw, ws, hx.symm, (ka.same sc).trans kb, hpw, hws, by omega⟩
        · rw [decide_eq_false c]
          refine iteF ⟨line5 (by simp), fun p1 hp1 => ?_⟩
          have sb : Same Ga (upd Ga p1 (.tup [])) := Same.add hp1
          have eb : (upd Ga p1 (.tup [])) p1 = some (.tup []) := upd_same
          generalize upd Ga p1 (.tup []) = Gb at sb eb ⊢
          generalize hx : V.ref p1 = x
          exact tail x Gb ⟨p1, [], hx.symm, ka.same sb, SqT.of eb, fun x h => (List.not_mem_nil h).elim, Nat.zero_le _⟩
      case tail =>
        rintro _ Gb ⟨p, ws, rfl, kb, hp, hws, hwl⟩
        have hgood : GoodI ws := ⟨hwl, fun x hx => okw_isW (hws x hx)⟩
        refine ⟨_, rfl, p, _, rfl, .inr hp, fun lh hlh => ?_⟩
        have nlh : lh ≠ S.st := by
          obtain ⟨l, hl⟩ := kb.st.lst
          exact fun z => by rw [z, hl] at hlh; cases hlh
        have sc : Same Gb (upd Gb lh (.lst (vInts ws))) := Same.add hlh
        have ec : (upd Gb lh (.lst (vInts ws))) lh = some (.lst (vInts ws)) := upd_same
        generalize upd Gb lh (.lst (vInts ws)) = Gc at sc ec ⊢
        refine ⟨_, rfl, by decide, by decide, for_range (n := 2) (fun _ σ Ge => ∃ v5 v6 : Option V, σ = [some (.ref a), some (.ref S.st), some (.int (0 + (n : Nat))), some (.ref p), some (.ref lh), v5, v6] ∧ St K Ge S ∧ SqT K Ge p (vInts ws) ∧ Ge lh = some (.lst (vInts ws))) ⟨_, _, rfl, kb.st.same sc, Same.tup sc hp, ec⟩ ?_ ?_⟩
        · rintro k σ Ge hk ⟨v5, v6, rfl, ste, hte, hle⟩
          refine ⟨_, rfl, lh, ws, rfl, .inl (SqL.of hle), hgood, fun G1 s1 => ⟨_, rfl, p, ws, rfl, .inr (Same.tup s1 hte), hgood, fun G2 s2 => ⟨line5 (by simp), fun Fd hFd => ?_⟩⟩⟩
          have s3 : Same G2 (upd G2 Fd (.lst [V.str (shownT ws), V.str (shownT ws)])) := Same.add hFd
          have e3 : (upd G2 Fd (.lst [V.str (shownT ws), V.str (shownT ws)])) Fd = some (.lst [V.str (shownT ws), V.str (shownT ws)]) := upd_same
          generalize upd G2 Fd (.lst [V.str (shownT ws), V.str (shownT ws)]) = G3 at s3 e3 ⊢
          have sA := Same.trans s1 (Same.trans s2 s3)
          refine ⟨_, rfl, _, rfl, p, ws, rfl, Same.tup sA hte, hwl, hws, fun G4 s4 => ⟨line5 (by simp), fun E1 hE1 => ?_⟩⟩
          have s5 : Same G4 (upd G4 E1 (.lst [V.str (shownT ws)])) := Same.add hE1
          have e5 : (upd G4 E1 (.lst [V.str (shownT ws)])) E1 = some (.lst [V.str (shownT ws)]) := upd_same
          generalize upd G4 E1 (.lst [V.str (shownT ws)]) = G5 at s5 e5 ⊢
          refine ⟨E1, _, _, rfl, rfl, e5, by decide, by decide, line5 (by simp), fun E2 hE2 => ?_⟩
          rw [show (List.replicate (2 : Int).toNat [V.str (shownT ws)]).flatten = [V.str (shownT ws), V.str (shownT ws)] from rfl]
          have s6 : Same G5 (upd G5 E2 (.lst [V.str (shownT ws), V.str (shownT ws)])) := Same.add hE2
          have e6 : (upd G5 E2 (.lst [V.str (shownT ws), V.str (shownT ws)])) E2 = some (.lst [V.str (shownT ws), V.str (shownT ws)]) := upd_same
          generalize upd G5 E2 (.lst [V.str (shownT ws), V.str (shownT ws)]) = G6 at s6 e6 ⊢
          have sB := Same.trans s4 (Same.trans s5 s6)
          have dtwo : ∀ {D : Addr}, G6 D = some (.lst [V.str (shownT ws), V.str (shownT ws)]) → Dp K G6 (.ref D) (twoD (shownT ws)) := fun h => .lst (SqL.of h) (.cons (.str _) (.cons (.str _) .nil))
          refine ⟨.ref Fd, .ref E2, _, rfl, dtwo (sB _ _ e3), dtwo e6, (twoD_ok _).1, (twoD_ok _).2, fun G7 s7 => ?_⟩
          have sC := Same.trans sA (Same.trans sB s7)
          refine ⟨_, rfl, iteF ⟨_, rfl, _, rfl, p, _, rfl, .inr (Same.tup sC hte), fun lx hlx => ?_⟩⟩
          have s8 : Same G7 (upd G7 lx (.lst (vInts ws))) := Same.add hlx
          have e8 : (upd G7 lx (.lst (vInts ws))) lx = some (.lst (vInts ws)) := upd_same
          generalize upd G7 lx (.lst (vInts ws)) = G8 at s8 e8 ⊢
          have sD := Same.trans sC s8
          refine ⟨_, _, .lst (SqL.of (sD _ _ hle)) (dp_list ws), .lst (SqL.of e8) (dp_list ws), shaped_list ws, shaped_list ws, _, rfl, ?_⟩
          rw [eqv_list ws]
          exact iteF ⟨_, _, rfl, ste.same sD, Same.tup sD hte, sD _ _ hle⟩
        · rintro σ Ge ⟨v5, v6, rfl, ste, hte, hle⟩
          exact ⟨_, _, _, _, _, rfl, ste⟩
    · rintro σ G ⟨v2, v3, v4, v5, v6, rfl, st0⟩
      exact q G
end
end Bm
set_option maxHeartbeats 800000
namespace Bm
open PySem PySem.Spec PyProof.Rows L2
section
variable {P : Program} {w : World} {K : PySem.W.Frag} {mg : Str → Option Value} {base : Heap}
/-- a def of no defaults -/
theorem kn_of {CX : CXT} {k : Nat} {x : Str} {ps : List Str} {sp : Sp} {st : Stmt} {fd : FuncData} (g : mg x = some (.ref (He.ga K x))) (F : FunD K x x (defArgs st) (defBody st) (defScope st) [] [] (He.ga K x) fd) (ok : FnOk P w K mg base CX k (He.ga K x) fd ps sp)
    (h : ∀ (kV doc pm : Value) (an : Option Addr) (cdv ct : Value) (us : List Value), us.length = ps.length → bindArgs (PySem.W.fnOf x x (defArgs st) (defBody st) (defScope st) .none kV doc pm an cdv ct) ⟨us, []⟩ = pure (ps.zip us)) : Kn P w K mg base CX k x ps [] sp :=
  ⟨_, fd, [], g, F.kp, ok, F.bindsN h, .nil⟩
/-- a def with defaults, of which the first j are written over -/
theorem kn_dfl {CX : CXT} {k : Nat} {x : Str} {ps : List Str} {sp : Sp} {st : Stmt} {fd : FuncData} {dvs : List V} (n j : Nat) (g : mg x = some (.ref (He.ga K x))) (F : FunD K x x (defArgs st) (defBody st) (defScope st) dvs [] (He.ga K x) fd) (ok : FnOk P w K mg base CX k (He.ga K x) fd ps sp)
    (hd : dvs ≠ []) (hn : n + (dvs.length - j) = ps.length) (h : ∀ (T : Addr) (kV doc pm : Value) (an : Option Addr) (cdv ct : Value) (us its : List Value), us.length = n → its.length = dvs.length →
      ∃ k, bindArgs (PySem.W.fnOf x x (defArgs st) (defBody st) (defScope st) (.ref T) kV doc pm an cdv ct) ⟨us, []⟩ = seqItems? (.ref T) >>= k ∧ k (some its.toArray) = pure (ps.zip (us ++ its.drop j))) : Kn P w K mg base CX k x ps (dvs.drop j) sp := by
  obtain ⟨ds, h1, h2⟩ := F.binds1 n j hd hn h
  exact ⟨_, fd, ds, g, F.kp, ok, h2, h1⟩
theorem same_n {fd : FuncData} (g : mg "_law_same" = some (.ref (He.ga K "_law_same"))) (F : FunD K "_law_same" "_law_same" (defArgs s__law_same) (defBody s__law_same) (defScope s__law_same) [] [] (He.ga K "_law_same") fd)
    (g_isinstance : mg "isinstance" = none) (g_tuple : mg "tuple" = none) (g_list : mg "list" = none) (g_bool : mg "bool" = none) (g_int : mg "int" = none) (g_len : mg "len" = none) (g_range : mg "range" = none) :
    ∀ n, Kn P w K mg base CX0 n "_law_same" ["_law_found", "_law_due"] [] (spSame K n)
  | 0 => kn_of g F ⟨fun vs H Q E h => by obtain ⟨x, y, d, _, _, _, z, _⟩ := h; exact absurd z (Nat.not_lt_zero _), fun A outer s H args us vs Q E _ _ _ _ h => by obtain ⟨x, y, d, _, _, _, z, _⟩ := h; exact absurd z (Nat.not_lt_zero _)⟩
      (fun _ _ _ _ _ _ us hl => match us, hl with | [_, _], _ => rfl)
  | n + 1 => kn_of g F (ok_same F g_isinstance g_tuple g_list g_bool g_int g_len g_range (same_n g F g_isinstance g_tuple g_list g_bool g_int g_len g_range n)) (fun _ _ _ _ _ _ us hl => match us, hl with | [_, _], _ => rfl)
end
theorem facts {P : Program} {w : World} {K : PySem.W.Frag} {h h' : Heap} {mg : Str → Option Value} {f : Addr} (KX : K.In h) (G : h.Ns mainGlobals mg) (hfa : mg ("law" : Str) = some (.ref f)) (c : He.SaysX faL fnL tsL tfL exB w h' K) :
    ∃ fd : FuncData, (∀ (s : Shared) (v : Value), BindsTo s fd ⟨[v], []⟩ [("_law_script", v)]) ∧ ∀ base : Heap, K.In base → base.Ns mainGlobals mg → FnOk P w K mg base CX0 8 f fd ["_law_script"] (spLaw K) := by
  have cB : conB [] K = true := c.more
  have hC : Con w K mg [] := con_of cB (He.glo_ok KX G (c.t.d.fact 6 (f := .glo "SINGLES") rfl)) (He.glo_ok KX G (c.t.d.fact 7 (f := .glo "SUMS") rfl)) (He.glo_ok KX G (c.t.d.fact 8 (f := .glo "TIMES") rfl)) (He.glo_ok KX G (c.t.d.fact 9 (f := .glo "PARTS") rfl)) (He.glo_ok KX G (c.t.d.fact 10 (f := .glo "SPANS") rfl)) (c.t.tab 0 (t := (fun K => He.ga K "PARTS", _)) rfl) (c.t.tab 1 (t := (fun K => He.ga K "SPANS", _)) rfl)
  obtain ⟨fd_is_number, F_is_number⟩ := (c.t.d.def_ 0 (d := d_is_number) rfl)
  obtain ⟨fd_is_word, F_is_word⟩ := (c.t.d.def_ 1 (d := d_is_word) rfl)
  obtain ⟨fd_first_wrong, F_first_wrong⟩ := (c.t.d.def_ 2 (d := d_first_wrong) rfl)
  obtain ⟨fd_checked_image, F_checked_image⟩ := (c.t.d.def_ 3 (d := d_checked_image) rfl)
  obtain ⟨fd_is_part, F_is_part⟩ := (c.t.d.def_ 4 (d := d_is_part) rfl)
  obtain ⟨fd_is_deed, F_is_deed⟩ := (c.t.d.def_ 5 (d := d_is_deed) rfl)
  obtain ⟨fd_words_of, F_words_of⟩ := (c.t.d.def_ 6 (d := d_words_of) rfl)
  obtain ⟨fd_going_words, F_going_words⟩ := (c.t.d.def_ 7 (d := d_going_words) rfl)
  obtain ⟨fd_is_reached, F_is_reached⟩ := (c.t.d.def_ 8 (d := d_is_reached) rfl)
  obtain ⟨fd_only_word, F_only_word⟩ := (c.t.d.def_ 9 (d := d_only_word) rfl)
  obtain ⟨fd_fields, F_fields⟩ := (c.t.d.def_ 10 (d := d_fields) rfl)
  obtain ⟨fd_deed_at, F_deed_at⟩ := (c.t.d.def_ 11 (d := d_deed_at) rfl)
  obtain ⟨fd_deeds_met, F_deeds_met⟩ := (c.t.d.def_ 12 (d := d_deeds_met) rfl)
  obtain ⟨fd_goal_of, F_goal_of⟩ := (c.t.d.def_ 13 (d := d_goal_of) rfl)
  obtain ⟨fd_guessed, F_guessed⟩ := (c.t.d.def_ 14 (d := d_guessed) rfl)
  obtain ⟨fd_guessed_going, F_guessed_going⟩ := (c.t.d.def_ 15 (d := d_guessed_going) rfl)
  obtain ⟨fd_signed, F_signed⟩ := (c.t.d.def_ 16 (d := d_signed) rfl)
  obtain ⟨fd_shown, F_shown⟩ := (c.t.d.def_ 17 (d := d_shown) rfl)
  obtain ⟨fd_told_deeds, F_told_deeds⟩ := (c.t.d.def_ 18 (d := d_told_deeds) rfl)
  obtain ⟨fd_word_row, F_word_row⟩ := (c.t.d.def_ 19 (d := d_word_row) rfl)
  obtain ⟨fd_deed_row, F_deed_row⟩ := (c.t.d.def_ 20 (d := d_deed_row) rfl)
  obtain ⟨fd_reach_word, F_reach_word⟩ := (c.t.d.def_ 21 (d := d_reach_word) rfl)
  obtain ⟨fd__law_start, F__law_start⟩ := (c.t.d.def_ 22 (d := d__law_start) rfl)
  obtain ⟨fd__law_drawn, F__law_drawn⟩ := (c.t.d.def_ 23 (d := d__law_drawn) rfl)
  obtain ⟨fd__law_same, F__law_same⟩ := (c.t.d.def_ 24 (d := d__law_same) rfl)
  obtain ⟨fd__law_plain, F__law_plain⟩ := (c.t.d.def_ 25 (d := d__law_plain) rfl)
  obtain ⟨fd__law_pairs, F__law_pairs⟩ := (c.t.d.def_ 26 (d := d__law_pairs) rfl)
  obtain ⟨fd__law_times, F__law_times⟩ := (c.t.d.def_ 27 (d := d__law_times) rfl)
  obtain ⟨fd__law_number, F__law_number⟩ := (c.t.d.def_ 28 (d := d__law_number) rfl)
  obtain ⟨fd__law_deed, F__law_deed⟩ := (c.t.d.def_ 29 (d := d__law_deed) rfl)
  obtain ⟨fd__law_words, F__law_words⟩ := (c.t.d.def_ 30 (d := d__law_words) rfl)
  obtain ⟨fd__law_deed_at, F__law_deed_at⟩ := (c.t.d.def_ 31 (d := d__law_deed_at) rfl)
  obtain ⟨fd__law_image, F__law_image⟩ := (c.t.d.def_ 32 (d := d__law_image) rfl)
  obtain ⟨fd__law_row_of, F__law_row_of⟩ := (c.t.d.def_ 33 (d := d__law_row_of) rfl)
  obtain ⟨fd__law_swept, F__law_swept⟩ := (c.t.d.def_ 34 (d := d__law_swept) rfl)
  obtain ⟨fd__law_hex, F__law_hex⟩ := (c.t.d.def_ 35 (d := d__law_hex) rfl)
  obtain ⟨fd__law_shown, F__law_shown⟩ := (c.t.d.def_ 36 (d := d__law_shown) rfl)
  obtain ⟨fd, F⟩ := (c.t.d.def_ 37 (d := d_law) rfl)
  have e := hfa.symm.trans (He.glo_ok KX G (c.t.d.fact 44 (f := .glo "law") rfl))
  cases e
  have b := FunD.bindsA (ps := ["_law_script"]) F fun _ _ _ _ _ _ us hl => match us, hl with | [_], _ => rfl
  refine ⟨fd, fun s v => b s [v] rfl, fun base hb1 hb2 => ?_⟩
  have kF0 := kn_dfl (P := P) (w := w) (base := base) (st := s_fields) 3 1 (He.glo_ok KX G (c.t.d.fact 17 (f := .glo "fields") rfl)) F_fields (ok_fields F_fields) (by intro z; cases z) rfl (fun _ _ _ _ _ _ _ us its h1 h2 => match us, its, h1, h2 with | [_, _, _], [_], _, _ => ⟨_, rfl, rfl⟩)
  have kF1 := kn_dfl (P := P) (w := w) (base := base) (st := s_fields) 2 0 (He.glo_ok KX G (c.t.d.fact 17 (f := .glo "fields") rfl)) F_fields (ok_fields F_fields) (by intro z; cases z) rfl (fun _ _ _ _ _ _ _ us its h1 h2 => match us, its, h1, h2 with | [_, _], [_], _, _ => ⟨_, rfl, rfl⟩)
  have kRe := kn_of (P := P) (w := w) (base := base) (st := s_is_reached) (He.glo_ok KX G (c.t.d.fact 15 (f := .glo "is_reached") rfl)) F_is_reached (ok_reached F_is_reached) (fun _ _ _ _ _ _ us hl => match us, hl with | [_, _], _ => rfl)
  have kG := kn_of (P := P) (w := w) (base := base) (st := s_going_words) (He.glo_ok KX G (c.t.d.fact 14 (f := .glo "going_words") rfl)) F_going_words (ok_going F_going_words kF1 kRe) (fun _ _ _ _ _ _ us hl => match us, hl with | [_, _, _, _, _], _ => rfl)
  have kO := kn_of (P := P) (w := w) (base := base) (st := s_only_word) (He.glo_ok KX G (c.t.d.fact 16 (f := .glo "only_word") rfl)) F_only_word (ok_only F_only_word hC kF0 kF1) (fun _ _ _ _ _ _ us hl => match us, hl with | [_], _ => rfl)
  have kW := kn_of (P := P) (w := w) (base := base) (st := s_words_of) (He.glo_ok KX G (c.t.d.fact 13 (f := .glo "words_of") rfl)) F_words_of (ok_words_of F_words_of hC kG kO) (fun _ _ _ _ _ _ us hl => match us, hl with | [_, _], _ => rfl)
  have kN := kn_of (P := P) (w := w) (base := base) (st := s_is_number) (He.glo_ok KX G (c.t.d.fact 2 (f := .glo "is_number") rfl)) F_is_number (ok_num F_is_number (He.free_ok KX G (c.t.d.fact 52 (f := .free "isinstance") rfl)) (He.free_ok KX G (c.t.d.fact 48 (f := .free "bool") rfl)) (He.free_ok KX G (c.t.d.fact 51 (f := .free "int") rfl))) (fun _ _ _ _ _ _ us hl => match us, hl with | [_, _, _], _ => rfl)
  have kP := kn_of (P := P) (w := w) (base := base) (st := s_is_part) (He.glo_ok KX G (c.t.d.fact 11 (f := .glo "is_part") rfl)) F_is_part (ok_part F_is_part hC (He.free_ok KX G (c.t.d.fact 52 (f := .free "isinstance") rfl)) (He.free_ok KX G (c.t.d.fact 48 (f := .free "bool") rfl)) kN) (fun _ _ _ _ _ _ us hl => match us, hl with | [_, _], _ => rfl)
  have kD := kn_of (P := P) (w := w) (base := base) (st := s_is_deed) (He.glo_ok KX G (c.t.d.fact 12 (f := .glo "is_deed") rfl)) F_is_deed (ok_deed F_is_deed hC (fun _ hx => by cases hx) (He.free_ok KX G (c.t.d.fact 52 (f := .free "isinstance") rfl)) (He.free_ok KX G (c.t.d.fact 61 (f := .free "tuple") rfl)) (He.free_ok KX G (c.t.d.fact 58 (f := .free "str") rfl)) (He.free_ok KX G (c.t.d.fact 53 (f := .free "len") rfl)) (He.free_ok KX G (c.t.d.fact 47 (f := .free "all") rfl)) (He.free_ok KX G (c.t.d.fact 62 (f := .free "zip") rfl)) kP) (fun _ _ _ _ _ _ us hl => match us, hl with | [_], _ => rfl)
  have kWd := kn_of (P := P) (w := w) (base := base) (st := s_is_word) (He.glo_ok KX G (c.t.d.fact 3 (f := .glo "is_word") rfl)) F_is_word (ok_word F_is_word kN (He.int_ok KX G (c.t.d.fact 45 (f := .int "WORD_MOST" 65535) rfl))) (fun _ _ _ _ _ _ us hl => match us, hl with | [_], _ => rfl)
  have kWr := kn_of (P := P) (w := w) (base := base) (st := s_first_wrong) (He.glo_ok KX G (c.t.d.fact 4 (f := .glo "first_wrong") rfl)) F_first_wrong (ok_wrong F_first_wrong kWd (He.free_ok KX G (c.t.d.fact 50 (f := .free "enumerate") rfl))) (fun _ _ _ _ _ _ us hl => match us, hl with | [_, _], _ => rfl)
  have kIm := kn_of (P := P) (w := w) (base := base) (st := s_checked_image) (He.glo_ok KX G (c.t.d.fact 5 (f := .glo "checked_image") rfl)) F_checked_image (ok_imgV F_checked_image kWr (He.free_ok KX G (c.t.d.fact 61 (f := .free "tuple") rfl)) (He.int_ok KX G (c.t.d.fact 46 (f := .int "IMAGE_MOST" 200) rfl))) (fun _ _ _ _ _ _ us hl => match us, hl with | [_], _ => rfl)
  have kSi := kn_of (P := P) (w := w) (base := base) (st := s_signed) (He.glo_ok KX G (c.t.d.fact 23 (f := .glo "signed") rfl)) F_signed (ok_signed F_signed) (fun _ _ _ _ _ _ us hl => match us, hl with | [_, _], _ => rfl)
  have kGG := kn_of (P := P) (w := w) (base := base) (st := s_guessed_going) (He.glo_ok KX G (c.t.d.fact 22 (f := .glo "guessed_going") rfl)) F_guessed_going (ok_ggoing F_guessed_going hC) (fun _ _ _ _ _ _ us hl => match us, hl with | [_, _, _, _], _ => rfl)
  have kGs := kn_of (P := P) (w := w) (base := base) (st := s_guessed) (He.glo_ok KX G (c.t.d.fact 21 (f := .glo "guessed") rfl)) F_guessed (ok_guess F_guessed hC kSi kGG) (fun _ _ _ _ _ _ us hl => match us, hl with | [_, _], _ => rfl)
  have kAt := kn_of (P := P) (w := w) (base := base) (st := s_deed_at) (He.glo_ok KX G (c.t.d.fact 18 (f := .glo "deed_at") rfl)) F_deed_at (ok_at F_deed_at kGs kD kW (He.free_ok KX G (c.t.d.fact 53 (f := .free "len") rfl))) (fun _ _ _ _ _ _ us hl => match us, hl with | [_, _], _ => rfl)
  have kMt := kn_of (P := P) (w := w) (base := base) (st := s_deeds_met) (He.glo_ok KX G (c.t.d.fact 19 (f := .glo "deeds_met") rfl)) F_deeds_met (ok_met F_deeds_met kAt (He.free_ok KX G (c.t.d.fact 53 (f := .free "len") rfl))) (fun _ _ _ _ _ _ us hl => match us, hl with | [_], _ => rfl)
  have kFw := kn_of (P := P) (w := w) (base := base) (st := s_reach_word) (He.glo_ok KX G (c.t.d.fact 28 (f := .glo "reach_word") rfl)) F_reach_word (ok_farw F_reach_word) (fun _ _ _ _ _ _ us hl => match us, hl with | [_], _ => rfl)
  have kRo := kn_of (P := P) (w := w) (base := base) (st := s_deed_row) (He.glo_ok KX G (c.t.d.fact 27 (f := .glo "deed_row") rfl)) F_deed_row (ok_row F_deed_row hC kFw (He.free_ok KX G (c.t.d.fact 62 (f := .free "zip") rfl)) (He.free_ok KX G (c.t.d.fact 58 (f := .free "str") rfl))) (fun _ _ _ _ _ _ us hl => match us, hl with | [_], _ => rfl)
  have kGo := kn_of (P := P) (w := w) (base := base) (st := s_goal_of) (He.glo_ok KX G (c.t.d.fact 20 (f := .glo "goal_of") rfl)) F_goal_of (ok_goal F_goal_of) (fun _ _ _ _ _ _ us hl => match us, hl with | [_], _ => rfl)
  have kWo := kn_of (P := P) (w := w) (base := base) (st := s_word_row) (He.glo_ok KX G (c.t.d.fact 26 (f := .glo "word_row") rfl)) F_word_row (ok_wrow F_word_row) (fun _ _ _ _ _ _ us hl => match us, hl with | [_], _ => rfl)
  have kTo := kn_of (P := P) (w := w) (base := base) (st := s_told_deeds) (He.glo_ok KX G (c.t.d.fact 25 (f := .glo "told_deeds") rfl)) F_told_deeds (ok_told F_told_deeds kMt kGo (He.free_ok KX G (c.t.d.fact 53 (f := .free "len") rfl))) (fun _ _ _ _ _ _ us hl => match us, hl with | [_], _ => rfl)
  have kSh := kn_of (P := P) (w := w) (base := base) (st := s_shown) (He.glo_ok KX G (c.t.d.fact 24 (f := .glo "shown") rfl)) F_shown (ok_shown F_shown kIm kTo kGo kWo kRo (He.free_ok KX G (c.t.d.fact 53 (f := .free "len") rfl))) (fun _ _ _ _ _ _ us hl => match us, hl with | [_], _ => rfl)
  have kSt := kn_of (P := P) (w := w) (base := base) (st := s__law_start) (He.glo_ok KX G (c.t.d.fact 29 (f := .glo "_law_start") rfl)) F__law_start (ok_start F__law_start) (fun _ _ _ _ _ _ us hl => match us, hl with | [_], _ => rfl)
  have kDr := kn_of (P := P) (w := w) (base := base) (st := s__law_drawn) (He.glo_ok KX G (c.t.d.fact 30 (f := .glo "_law_drawn") rfl)) F__law_drawn (ok_drawn F__law_drawn (He.free_ok KX G (c.t.d.fact 53 (f := .free "len") rfl))) (fun _ _ _ _ _ _ us hl => match us, hl with | [_, _], _ => rfl)
  have kSm := same_n (P := P) (w := w) (base := base) (He.glo_ok KX G (c.t.d.fact 31 (f := .glo "_law_same") rfl)) F__law_same (He.free_ok KX G (c.t.d.fact 52 (f := .free "isinstance") rfl)) (He.free_ok KX G (c.t.d.fact 61 (f := .free "tuple") rfl)) (He.free_ok KX G (c.t.d.fact 54 (f := .free "list") rfl)) (He.free_ok KX G (c.t.d.fact 48 (f := .free "bool") rfl)) (He.free_ok KX G (c.t.d.fact 51 (f := .free "int") rfl)) (He.free_ok KX G (c.t.d.fact 53 (f := .free "len") rfl)) (He.free_ok KX G (c.t.d.fact 57 (f := .free "range") rfl)) 4
  have k1 := kn_of (P := P) (w := w) (base := base) (st := s__law_plain) (He.glo_ok KX G (c.t.d.fact 32 (f := .glo "_law_plain") rfl)) F__law_plain (ok_plain F__law_plain) (fun _ _ _ _ _ _ us hl => match us, hl with | [], _ => rfl)
  have k2 := kn_of (P := P) (w := w) (base := base) (st := s__law_pairs) (He.glo_ok KX G (c.t.d.fact 33 (f := .glo "_law_pairs") rfl)) F__law_pairs (ok_pairs F__law_pairs) (fun _ _ _ _ _ _ us hl => match us, hl with | [], _ => rfl)
  have k3 := kn_of (P := P) (w := w) (base := base) (st := s__law_times) (He.glo_ok KX G (c.t.d.fact 34 (f := .glo "_law_times") rfl)) F__law_times (ok_times F__law_times) (fun _ _ _ _ _ _ us hl => match us, hl with | [], _ => rfl)
  have kNu := kn_of (P := P) (w := w) (base := base) (st := s__law_number) (He.glo_ok KX G (c.t.d.fact 35 (f := .glo "_law_number") rfl)) F__law_number (ok_number F__law_number kDr (He.free_ok KX G (c.t.d.fact 56 (f := .free "min") rfl))) (fun _ _ _ _ _ _ us hl => match us, hl with | [_, _, _], _ => rfl)
  have kLD := kn_of (P := P) (w := w) (base := base) (st := s__law_deed) (He.glo_ok KX G (c.t.d.fact 36 (f := .glo "_law_deed") rfl)) F__law_deed (ok_ldeed F__law_deed kDr kNu k1 k2 k3 (He.free_ok KX G (c.t.d.fact 56 (f := .free "min") rfl)) (He.free_ok KX G (c.t.d.fact 55 (f := .free "max") rfl))) (fun _ _ _ _ _ _ us hl => match us, hl with | [_, _, _], _ => rfl)
  have kLW := kn_of (P := P) (w := w) (base := base) (st := s__law_words) (He.glo_ok KX G (c.t.d.fact 37 (f := .glo "_law_words") rfl)) F__law_words (ok_lwords F__law_words k1 k2 k3 (He.free_ok KX G (c.t.d.fact 59 (f := .free "sum") rfl)) (He.free_ok KX G (c.t.d.fact 51 (f := .free "int") rfl))) (fun _ _ _ _ _ _ us hl => match us, hl with | [_, _], _ => rfl)
  have kLa := kn_of (P := P) (w := w) (base := base) (st := s__law_deed_at) (He.glo_ok KX G (c.t.d.fact 38 (f := .glo "_law_deed_at") rfl)) F__law_deed_at (ok_lat F__law_deed_at k1 k2 k3 (He.free_ok KX G (c.t.d.fact 49 (f := .free "divmod") rfl)) (He.free_ok KX G (c.t.d.fact 51 (f := .free "int") rfl)) (He.free_ok KX G (c.t.d.fact 53 (f := .free "len") rfl))) (fun _ _ _ _ _ _ us hl => match us, hl with | [_, _], _ => rfl)
  have kLim := kn_of (P := P) (w := w) (base := base) (st := s__law_image) (He.glo_ok KX G (c.t.d.fact 39 (f := .glo "_law_image") rfl)) F__law_image (ok_limg F__law_image kDr kLD kLW (He.free_ok KX G (c.t.d.fact 53 (f := .free "len") rfl)) (He.free_ok KX G (c.t.d.fact 61 (f := .free "tuple") rfl))) (fun _ _ _ _ _ _ us hl => match us, hl with | [_, _], _ => rfl)
  have kSw := kn_of (P := P) (w := w) (base := base) (st := s__law_swept) (He.glo_ok KX G (c.t.d.fact 41 (f := .glo "_law_swept") rfl)) F__law_swept (ok_swept F__law_swept kLa (He.free_ok KX G (c.t.d.fact 53 (f := .free "len") rfl))) (fun _ _ _ _ _ _ us hl => match us, hl with | [_], _ => rfl)
  have kLr := kn_of (P := P) (w := w) (base := base) (st := s__law_row_of) (He.glo_ok KX G (c.t.d.fact 40 (f := .glo "_law_row_of") rfl)) F__law_row_of (ok_lrow F__law_row_of (He.free_ok KX G (c.t.d.fact 53 (f := .free "len") rfl)) (He.free_ok KX G (c.t.d.fact 51 (f := .free "int") rfl)) (He.free_ok KX G (c.t.d.fact 58 (f := .free "str") rfl))) (fun _ _ _ _ _ _ us hl => match us, hl with | [_], _ => rfl)
  have kHx := kn_of (P := P) (w := w) (base := base) (st := s__law_hex) (He.glo_ok KX G (c.t.d.fact 42 (f := .glo "_law_hex") rfl)) F__law_hex (ok_hex F__law_hex) (fun _ _ _ _ _ _ us hl => match us, hl with | [_], _ => rfl)
  have kLl := kn_of (P := P) (w := w) (base := base) (st := s__law_shown) (He.glo_ok KX G (c.t.d.fact 43 (f := .glo "_law_shown") rfl)) F__law_shown (ok_lshown F__law_shown kSw kHx kLr (He.free_ok KX G (c.t.d.fact 58 (f := .free "str") rfl)) (He.free_ok KX G (c.t.d.fact 53 (f := .free "len") rfl)) (He.free_ok KX G (c.t.d.fact 51 (f := .free "int") rfl))) (fun _ _ _ _ _ _ us hl => match us, hl with | [_], _ => rfl)
  exact ok_law F kSt kDr kLim kSh kLl kSm (He.free_ok KX G (c.t.d.fact 57 (f := .free "range") rfl)) (He.free_ok KX G (c.t.d.fact 54 (f := .free "list") rfl))
end Bm
open PySem PySem.W PySem.Calls PyProof.Rows
set_option maxRecDepth 100000 in
set_option maxHeartbeats 0 in
theorem PySem.Challenge.cw_bitmill_k16_images_shown_holds : PySem.Challenge.rw_bitmill_k16_images_shown.Holds := by
  w_on; o_law
  refine HandSHeadRun.head_any (r := OpenLaw.row PySem.Challenge.rw_bitmill_k16_images_shown) (q := view (OpenLaw.row PySem.Challenge.rw_bitmill_k16_images_shown).prog [Bm.LAWI]) (H := Bm.hk) (ob := Bm.ob) (M := 6000) (loose := Bm.looseL) (d := HandSHeadRun.topDef (OpenLaw.row PySem.Challenge.rw_bitmill_k16_images_shown).prog Bm.LAWI) (kwd := []) Bm.ob_eq
    (by kernel_rfl) (fun s => by kernel_rfl) Bm.run (by kernel_rfl) (by kernel_rfl) (by kernel_rfl) (by rfl) (by first | assumption | decide +kernel) (by decide +kernel) ⟨rfl, rfl, rfl, rfl, rfl, by decide +kernel⟩ ?hw ?hc
  case hw => w_witness2
  case hc =>
    refine L2.walk_ofE (l := PySem.Challenge.rw_bitmill_k16_images_shown) (n := 63) (k := 8) (x := "_law_script") (CX := L2.CX0) rfl (by decide) (by kernel_rfl) ⟨rfl, by decide, by decide⟩ ?F (fun _ _ _ _ z => z)
    intro w mg fa h Y G hmg0
    obtain ⟨K, KX, c⟩ := Y
    have hmg : mg ("law" : PySem.Str) = some (.ref fa) := by
      have e : (HandSHeadRun.topDef (OpenLaw.row PySem.Challenge.rw_bitmill_k16_images_shown).prog Bm.LAWI).name = ("law" : PySem.Str) := by kernel_rfl
      rw [← e]
      exact hmg0
    obtain ⟨fd, hb, hF⟩ := Bm.facts (P := (PySem.Challenge.rw_bitmill_k16_images_shown).prog) (w := w) KX G hmg c
    exact ⟨K, fd, Bm.spLaw K, KX, hb, fun H a ns hl _ hS => ⟨a, ns, rfl, hS, hl, fun _ => rfl⟩, hF⟩
