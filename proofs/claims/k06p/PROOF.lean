import PyProof.Rows.All
import Wide.All
import OpenK.AllK
import Wide.FinOn
import HandS.ForMost
import HandS.Exc
import HandS.ExcOwn
import HandS.Lambda
import HandS.Deep
import HandS.Conv
import HandS.Style
import HandS.TupLe
import HandS.TupLen
import HandS.More
import HandS.Flow
import HandS.Defaults
import HandS.HeadHook1
import HandS.HeadHook2
import HandS.HeadHook3
import HandS.HeadHook4
import PyProof.Draws
import KE.GoesMore
import HandS.DictComp
import HandS.HotCalls
import KE.SortKeyHeap
import HandS.SortKw
import HandS.ExcIs
import KE.KDictDisplayH
import HandS.IsInst
import HandS.Text
import PyProof.ListStr
import PyProof.Rows.StrMul
import KE.KDictCopyH
import HandS.TryOnly
import KE.KStateDown
import Lean
import HandS.Head0
import HandS.Head1
import HandS.Head2
import HandS.HeadEnd
import HandS.HeadWalk
import PySem.Challenge.RW_turnfloor_k06_turns_told
set_option Elab.async false
set_option linter.all false
set_option maxRecDepth 100000
set_option maxHeartbeats 0
/-! Typed data over the hand layer: what a value stands for in a frame of the heap that nobody writes any more. -/
namespace Tf
open PySem PySem.Spec PyProof.Rows L2

/-! ### data -/
class Dt (α : Type) where
  d : α → PyData
open Dt
abbrev St := L2.St
instance : Dt Int := ⟨.int⟩
instance : Dt Bool := ⟨.bool⟩
instance : Dt Str := ⟨.str⟩
instance : Dt Unit := ⟨fun _ => .none⟩
instance : Dt PyData := ⟨fun x => x⟩
instance {α : Type} [Dt α] : Dt (List α) := ⟨fun xs => .list (xs.map d)⟩
instance {α β : Type} [Dt α] [Dt β] : Dt (α × β) := ⟨fun p => .tuple [d p.1, d p.2]⟩

/-- a key of a dict, as data -/
def keyD (k : List Key) : PyData := .tuple (k.map fun z => match z with
  | .inl i => .int i
  | .inr x => .str x)
mutual
/-- v stands for the data in the frame F; an object of a class at C is told as a dict that begins with C -/
inductive Rv (F : Hp) : V → PyData → Prop
  | non : Rv F .non .none
  | bl (b : Bool) : Rv F (.bl b) (.bool b)
  | int (i : Int) : Rv F (.int i) (.int i)
  | str (x : Str) : Rv F (.str x) (.str x)
  | lst {p : Addr} {us : List V} {es : List PyData} (at_ : F p = some (.lst us)) (all : RvL F us es) : Rv F (.ref p) (.list es)
  | tup {p : Addr} {us : List V} {es : List PyData} (at_ : F p = some (.tup us)) (all : RvL F us es) : Rv F (.ref p) (.tuple es)
  | emp {p : Addr} (at_ : F p = some (.dK [])) : Rv F (.ref p) (.dict [(.none, .none)])
  | dic {p : Addr} {ks : List (List Key)} {us : List V} {es : List PyData} (at_ : F p = some (.dT (ks.zip us))) (len : ks.length = us.length) (all : RvL F us es) : Rv F (.ref p) (.dict ((ks.map keyD).zip es))
  | obj {p C dx : Addr} {ns : List Str} {us : List V} {es : List PyData} (at_ : F p = some (.ins C dx (ns.zip us))) (len : ns.length = us.length) (all : RvL F us es) : Rv F (.ref p) (.dict ((.int (C : Nat), .none) :: (ns.map PyData.str).zip es))
inductive RvL (F : Hp) : List V → List PyData → Prop
  | nil : RvL F [] []
  | cons {u : V} {us : List V} {e : PyData} {es : List PyData} (one : Rv F u e) (more : RvL F us es) : RvL F (u :: us) (e :: es)
end
mutual
theorem Rv.mono {F G : Hp} (s : Same F G) : ∀ {e : PyData} {u : V}, Rv F u e → Rv G u e
  | _, _, .non => .non
  | _, _, .bl _ => .bl _
  | _, _, .int _ => .int _
  | _, _, .str _ => .str _
  | _, _, .lst a r => .lst (s _ _ a) (RvL.mono s r)
  | _, _, .tup a r => .tup (s _ _ a) (RvL.mono s r)
  | _, _, .emp a => .emp (s _ _ a)
  | _, _, .dic a l r => .dic (s _ _ a) l (RvL.mono s r)
  | _, _, .obj a l r => .obj (s _ _ a) l (RvL.mono s r)
theorem RvL.mono {F G : Hp} (s : Same F G) : ∀ {es : List PyData} {us : List V}, RvL F us es → RvL G us es
  | _, _, .nil => .nil
  | _, _, .cons a r => .cons (Rv.mono s a) (RvL.mono s r)
end
theorem rv_int {F : Hp} {v : V} {i : Int} (h : Rv F v (d i)) : v = .int i := by
  have h' : Rv F v (.int i) := h
  cases h'
  rfl
theorem rv_bool {F : Hp} {v : V} {i : Bool} (h : Rv F v (d i)) : v = .bl i := by
  have h' : Rv F v (.bool i) := h
  cases h'
  rfl
theorem rv_str {F : Hp} {v : V} {i : Str} (h : Rv F v (d i)) : v = .str i := by
  have h' : Rv F v (.str i) := h
  cases h'
  rfl
theorem rv_unit {F : Hp} {v : V} {i : Unit} (h : Rv F v (d i)) : v = .non := by
  have h' : Rv F v .none := h
  cases h'
  rfl
theorem rv_list {α : Type} [Dt α] {F : Hp} {v : V} {xs : List α} (h : Rv F v (d xs)) : ∃ p us, v = .ref p ∧ F p = some (.lst us) ∧ RvL F us (xs.map d) := by
  have h' : Rv F v (.list (xs.map d)) := h
  cases h' with
  | lst a r => exact ⟨_, _, rfl, a, r⟩
theorem rv_pair {α β : Type} [Dt α] [Dt β] {F : Hp} {v : V} {x : α × β} (h : Rv F v (d x)) : ∃ p u w, v = .ref p ∧ F p = some (.tup [u, w]) ∧ Rv F u (d x.1) ∧ Rv F w (d x.2) := by
  have h' : Rv F v (.tuple [d x.1, d x.2]) := h
  cases h' with
  | tup a r =>
    cases r with
    | cons r1 r =>
      cases r with
      | cons r2 r =>
        cases r
        exact ⟨_, _, _, rfl, a, r1, r2⟩
theorem RvL.length {F : Hp} : ∀ {us : List V} {es : List PyData}, RvL F us es → us.length = es.length
  | _, _, .nil => rfl
  | _, _, .cons _ r => congrArg Nat.succ r.length
theorem RvL.get {F : Hp} : ∀ {us : List V} {es : List PyData} {i : Nat} {e : PyData}, RvL F us es → es[i]? = some e → ∃ u, us[i]? = some u ∧ Rv F u e
  | _, _, _, _, .nil, q => by simp at q
  | _, _, 0, _, .cons a _, q => by
    simp at q
    subst q
    exact ⟨_, rfl, a⟩
  | _, _, i + 1, e, .cons _ r, q => by
    obtain ⟨u, h1, h2⟩ := RvL.get (i := i) (e := e) r (by simpa using q)
    exact ⟨u, by simpa using h1, h2⟩
theorem RvL.app {F : Hp} : ∀ {us ws : List V} {es fs : List PyData}, RvL F us es → RvL F ws fs → RvL F (us ++ ws) (es ++ fs)
  | _, _, _, _, .nil, s => s
  | _, _, _, _, .cons a r, s => .cons a (r.app s)
theorem RvL.one {F : Hp} {u : V} {e : PyData} (h : Rv F u e) : RvL F [u] [e] := .cons h .nil
/-- an item of the list, by its place -/
theorem RvL.at_ {α : Type} [Dt α] {F : Hp} {us : List V} {xs : List α} {i : Nat} {x : α} (r : RvL F us (xs.map d)) (h : xs[i]? = some x) : ∃ u, us[i]? = some u ∧ Rv F u (d x) :=
  r.get (by rw [List.getElem?_map, h]; rfl)
theorem RvL.back {α : Type} [Dt α] {F : Hp} {us : List V} {xs : List α} {i : Nat} {u : V} (r : RvL F us (xs.map d)) (h : us[i]? = some u) : ∃ x, xs[i]? = some x ∧ Rv F u (d x) := by
  have l := r.length
  rw [List.length_map] at l
  have hi := (List.getElem?_eq_some_iff.mp h).1
  have e : xs[i]? = some xs[i] := List.getElem?_eq_getElem (by omega)
  obtain ⟨w, h1, h2⟩ := r.at_ e
  rw [h] at h1
  cases h1
  exact ⟨_, e, h2⟩

/-! ### frames -/
def notTbl (o : HO) : Prop := ∀ ps, o ≠ .tbl ps
/-- F is a part of H, without tables of code -/
def Sub (F H : Hp) : Prop := ∀ a o, F a = some o → H a = some o ∧ notTbl o
/-- what is tracked stays, but for the tables; nothing is forgotten -/
structure Ext (H H' : Hp) : Prop where
  keep : ∀ a o, H a = some o → notTbl o → H' a = some o
  live : ∀ a, H' a = none → H a = none
theorem Ext.refl (H : Hp) : Ext H H := ⟨fun _ _ h _ => h, fun _ h => h⟩
theorem Ext.trans {H H1 H2 : Hp} (a : Ext H H1) (b : Ext H1 H2) : Ext H H2 := ⟨fun p o h n => b.keep p o (a.keep p o h n) n, fun p h => a.live p (b.live p h)⟩
theorem Ext.new {H : Hp} {p : Addr} {o : HO} (h : H p = none) : Ext H (upd H p o) := by
  refine ⟨fun a u e _ => ?_, fun a e => ?_⟩
  · rw [upd_ne (ne_of_none e h)]
    exact e
  · by_cases q : a = p
    · rw [q]
      exact h
    · rw [upd_ne q] at e
      exact e
/-- an object that H does not know changes -/
theorem Ext.mut {H H' : Hp} {p : Addr} {o : HO} (e : Ext H H') (h : H p = none) : Ext H (upd H' p o) := by
  refine ⟨fun a u ha n => ?_, fun a ha => ?_⟩
  · rw [upd_ne (ne_of_none ha h)]
    exact e.keep a u ha n
  · by_cases q : a = p
    · rw [q]
      exact h
    · rw [upd_ne q] at ha
      exact e.live a ha
theorem Sub.ext {F H H' : Hp} (s : Sub F H) (e : Ext H H') : Sub F H' := fun a o h => ⟨e.keep a o (s a o h).1 (s a o h).2, (s a o h).2⟩
theorem Sub.same {F H : Hp} (s : Sub F H) : Same F H := fun a o h => (s a o h).1
theorem Sub.less {F G H : Hp} (s : Sub G H) (l : Same F G) : Sub F H := fun a o h => s a o (l a o h)
theorem Sub.mut {F H : Hp} {p : Addr} {o : HO} (s : Sub F H) (h : F p = none) : Sub F (upd H p o) := fun a u e => by
  rw [upd_ne (ne_of_none e h)]
  exact s a u e
theorem Sub.free {F H : Hp} {p : Addr} (s : Sub F H) (h : H p = none) : F p = none := by
  cases e : F p with
  | none => rfl
  | some o =>
    rw [(s p o e).1] at h
    cases h
theorem nt_lst {us : List V} : notTbl (.lst us) := fun _ z => by cases z
theorem nt_tup {us : List V} : notTbl (.tup us) := fun _ z => by cases z
theorem nt_dT {us : List (List Key × V)} : notTbl (.dT us) := fun _ z => by cases z
theorem nt_ins {C dx : Addr} {fs : List (Str × V)} : notTbl (.ins C dx fs) := fun _ z => by cases z
theorem nt_own {x : Addr} : notTbl (.own x) := fun _ z => by cases z

/-- a holds something that may be written -/
def notTup (o : HO) : Prop := ∀ us, o ≠ .tup us
def Wr (H : Hp) (a : Addr) : Prop := ∃ o, H a = some o ∧ notTup o ∧ notTbl o
theorem Wr.some {H : Hp} {a : Addr} (w : Wr H a) : H a ≠ none := by
  obtain ⟨o, e, _⟩ := w
  rw [e]
  exact fun z => nomatch z
theorem Wr.ext {H H' : Hp} {a : Addr} (w : Wr H a) (e : Ext H H') : Wr H' a := by
  obtain ⟨o, h, n, m⟩ := w
  exact ⟨o, e.keep a o h m, n, m⟩
theorem wr_lst {H : Hp} {a : Addr} {us : List V} (h : H a = Option.some (.lst us)) : Wr H a := ⟨_, h, fun _ z => (by cases z), fun _ z => (by cases z)⟩
theorem wr_dT {H : Hp} {a : Addr} {us : List (List Key × V)} (h : H a = Option.some (.dT us)) : Wr H a := ⟨_, h, fun _ z => (by cases z), fun _ z => (by cases z)⟩
theorem wr_ins {H : Hp} {a : Addr} {C dx : Addr} {fs : List (Str × V)} (h : H a = Option.some (.ins C dx fs)) : Wr H a := ⟨_, h, fun _ z => (by cases z), fun _ z => (by cases z)⟩
/-- from F in H to F' in H': what stands stays; what is new in F' is new in H too -/
structure Step (T : List (Addr × Str)) (F F' H H' : Hp) : Prop where
  ff : Same F F'
  sub : Sub F' H'
  ext : Ext H H'
  new : ∀ a, F a = none → Wr H a → F' a = none
  tab : LamX.Tabs T H'
variable {T : List (Addr × Str)}
theorem Step.refl {F H : Hp} (s : Sub F H) (t : LamX.Tabs T H) : Step T F F H H := ⟨Same.refl F, s, Ext.refl H, fun _ h _ => h, t⟩
theorem Step.trans {F F1 F2 H H1 H2 : Hp} (a : Step T F F1 H H1) (b : Step T F1 F2 H1 H2) : Step T F F2 H H2 :=
  ⟨a.ff.trans b.ff, b.sub, a.ext.trans b.ext, fun p h1 h2 => b.new p (a.new p h1 h2) (h2.ext a.ext), b.tab⟩
/-- the frame may be kept as it was -/
theorem Step.keep {F F1 H H1 : Hp} (a : Step T F F1 H H1) : Step T F F H H1 := ⟨Same.refl F, a.sub.less a.ff, a.ext, fun _ h _ => h, a.tab⟩
theorem tabs_new {H : Hp} {p : Addr} {o : HO} (t : LamX.Tabs T H) (h : H p = none) : LamX.Tabs T (upd H p o) := t.ext fun b u e => by
  rw [upd_ne (ne_of_none e h)]
  exact e
/-- a new object joins the frame -/
theorem Step.made {F H : Hp} {p : Addr} {o : HO} (s : Sub F H) (t : LamX.Tabs T H) (h : H p = none) (n : notTbl o) : Step T F (upd F p o) H (upd H p o) := by
  have hF := s.free h
  refine ⟨fun a u e => ?_, fun a u e => ?_, Ext.new h, fun a h1 h2 => ?_, tabs_new t h⟩
  · rw [upd_ne (ne_of_none e hF)]
    exact e
  · by_cases q : a = p
    · subst q
      rw [upd_same] at e
      cases e
      exact ⟨upd_same, n⟩
    · rw [upd_ne q] at e
      rw [upd_ne q]
      exact s a u e
  · have q : a ≠ p := fun z => h2.some (by rw [z]; exact h)
    rw [upd_ne q]
    exact h1
/-- the larger of two frames -/
def join (F G : Hp) : Hp := fun a => match F a with
  | some o => some o
  | none => G a
theorem join_l {F G : Hp} : Same F (join F G) := fun a o h => by
  unfold join
  rw [h]
theorem join_r {F G H : Hp} (s : Same F H) (t : Same G H) : Same G (join F G) := fun a o h => by
  unfold join
  cases e : F a with
  | none => exact h
  | some u =>
    have h1 := s a u e
    rw [t a o h] at h1
    exact h1.symm
theorem join_sub {F G H : Hp} (s : Sub F H) (t : Sub G H) : Sub (join F G) H := fun a o h => by
  unfold join at h
  cases e : F a with
  | none =>
    rw [e] at h
    exact t a o h
  | some u =>
    rw [e] at h
    cases h
    exact s a _ e
theorem Step.over {F F1 G H H1 : Hp} (a : Step T F F1 H H1) (l : Same F G) (s : Sub G H) : Step T G (join G F1) H H1 := by
  refine ⟨join_l, join_sub (s.ext a.ext) a.sub, a.ext, fun p h1 h2 => ?_, a.tab⟩
  unfold join
  rw [h1]
  refine a.new p ?_ h2
  cases e : F p with
  | none => rfl
  | some u =>
    have z := l p u e
    rw [h1] at z
    cases z

/-! ### what evaluates to what -/
/-- te gives x, whatever the heap about the frame F is -/
def Ev (T : List (Addr × Str)) {α : Type} [Dt α] (te : TE) (σ : St) (F : Hp) (x : α) : Prop :=
  ∀ H, Sub F H → LamX.Tabs T H → ∀ Q : VK, (∀ v F' H', Step T F F' H H' → Rv F' v (d x) → Q v H') → te σ H Q
/-- the same, and an object that is given is new -/
def EvN (T : List (Addr × Str)) {α : Type} [Dt α] (te : TE) (σ : St) (F : Hp) (x : α) : Prop :=
  ∀ H, Sub F H → LamX.Tabs T H → ∀ Q : VK, (∀ v F' H', Step T F F' H H' → Rv F' v (d x) → (∀ p, v = .ref p → H p = none) → Q v H') → te σ H Q
theorem EvN.ev {T : List (Addr × Str)} {α : Type} [Dt α] {te : TE} {σ : St} {F : Hp} {x : α} (h : EvN T te σ F x) : Ev T te σ F x := fun H s t Q q => h H s t Q fun v F' H' st r _ => q v F' H' st r
def EvT (T : List (Addr × Str)) (tt : TT) (σ : St) (F : Hp) (b : Bool) : Prop :=
  ∀ H, Sub F H → LamX.Tabs T H → ∀ Q : Bool → Hp → Prop, (∀ H', Step T F F H H' → Q b H') → tt σ H Q
/-- arguments, one behind another -/
def EvA (T : List (Addr × Str)) (ta : TA) (σ : St) (F : Hp) (es : List PyData) : Prop :=
  ∀ H, Sub F H → LamX.Tabs T H → ∀ Q : List V → Hp → Prop, (∀ vs F' H', Step T F F' H H' → RvL F' vs es → Q vs H') → ta σ H Q
section
variable {α β γ : Type} [Dt α] [Dt β] [Dt γ] {σ : St} {F G : Hp} {te ta tb tc : TE} {tt tu : TT} {K : PySem.W.Frag}
theorem Ev.mono {x : α} (l : Same F G) (h : Ev T te σ F x) : Ev T te σ G x := fun H s t Q q =>
  h H (s.less l) t Q fun v F' H' st r => q v _ H' (st.over l s) (r.mono (join_r (s.ext st.ext).same st.sub.same))
theorem EvT.mono {b : Bool} (l : Same F G) (h : EvT T tt σ F b) : EvT T tt σ G b := fun H s t Q q =>
  h H (s.less l) t Q fun H' st => q H' ⟨Same.refl G, s.ext st.ext, st.ext, fun _ h _ => h, st.tab⟩
theorem EvA.mono {tr : TA} {es : List PyData} (l : Same F G) (h : EvA T tr σ F es) : EvA T tr σ G es := fun H s t Q q =>
  h H (s.less l) t Q fun v F' H' st r => q v _ H' (st.over l s) (r.mono (join_r (s.ext st.ext).same st.sub.same))
theorem ev_var {i : Nat} {x : α} {v : V} (h : σ[i]? = some (some v)) (r : Rv F v (d x)) : Ev T (tVar i) σ F x := fun H s t _ q => ⟨v, h, q v F H (.refl s t) r⟩
theorem ev_int {i : Int} : Ev T (tC (.int i)) σ F i := fun H s t _ q => q _ F H (.refl s t) (.int i)
theorem ev_str {i : Str} : Ev T (tC (.str i)) σ F i := fun H s t _ q => q _ F H (.refl s t) (.str i)
theorem ev_bool {i : Bool} : Ev T (tC (.bl i)) σ F i := fun H s t _ q => q _ F H (.refl s t) (.bl i)
theorem ev_none : Ev T (tC .non) σ F () := fun H s t _ q => q _ F H (.refl s t) .non
theorem EvN.mono {x : α} (l : Same F G) (h : EvN T te σ F x) : EvN T te σ G x := fun H s t Q q =>
  h H (s.less l) t Q fun v F' H' st r n => q v _ H' (st.over l s) (r.mono (join_r (s.ext st.ext).same st.sub.same)) n
theorem evN_eq {x y : α} (h : EvN T te σ F x) (e : x = y) : EvN T te σ F y := e ▸ h
theorem ev_eq {x y : α} (h : Ev T te σ F x) (e : x = y) : Ev T te σ F y := e ▸ h
theorem evT_eq {x y : Bool} (h : EvT T tt σ F x) (e : x = y) : EvT T tt σ F y := e ▸ h
/-- seen as bare data -/
theorem Ev.data {x : α} (h : Ev T te σ F x) : Ev T te σ F (d x : PyData) := h
theorem ea_nil : EvA T tNil σ F [] := fun H s t _ q => q [] F H (.refl s t) .nil
theorem ea_cons {x : α} {tr : TA} {es : List PyData} (h : Ev T te σ F x) (hr : EvA T tr σ F es) : EvA T (tCons te tr) σ F (d x :: es) := fun H s t _ q =>
  h H s t _ fun v F' H' st r => (hr.mono st.ff) H' st.sub st.tab _ fun vs F2 H2 st2 r2 => q _ F2 H2 (st.trans st2) (.cons (r.mono st2.ff) r2)
/-- two operands -/
theorem ev_op {x : α} {y : β} {z : γ} {r : R2} (ha : Ev T ta σ F x) (hb : Ev T tb σ F y)
    (hr : ∀ (u w : V) (F1 H1 : Hp) (Q : VK), Same F F1 → Sub F1 H1 → LamX.Tabs T H1 → Rv F1 u (d x) → Rv F1 w (d y) → (∀ v F' H', Step T F1 F' H1 H' → Rv F' v (d z) → Q v H') → r u w H1 Q) : Ev T (tOp r ta tb) σ F z := fun H s t Q q =>
  ha H s t _ fun u F1 H1 st1 r1 => (hb.mono st1.ff) H1 st1.sub st1.tab _ fun w F2 H2 st2 r2 =>
    hr u w F2 H2 Q (st1.ff.trans st2.ff) st2.sub st2.tab (r1.mono st2.ff) r2 fun v F' H' st3 r3 => q v F' H' ((st1.trans st2).trans st3) r3
/-- an answer that needs no object -/
theorem ev_pure {x : α} {y : β} {z : γ} {r : R2} (ha : Ev T ta σ F x) (hb : Ev T tb σ F y)
    (hr : ∀ (u w : V) (F1 H1 : Hp) (Q : VK), Sub F1 H1 → Rv F1 u (d x) → Rv F1 w (d y) → (∀ v, (∀ G, Rv G v (d z)) → Q v H1) → r u w H1 Q) : Ev T (tOp r ta tb) σ F z :=
  ev_op ha hb fun u w F1 H1 Q _ s t r1 r2 q => hr u w F1 H1 Q s r1 r2 fun v rv => q v F1 H1 (.refl s t) (rv F1)
end
end Tf

/-! Operators by one rule each, whatever the kinds of their operands; what they give on typed data. -/
namespace Tf
open PySem PySem.Spec PyProof.Rows L2 Dt
section
variable {X : Cx}
theorem PE.or2 {e : Expr} {t u : TE} (h : PE X e t) (h' : PE X e u) : PE X e (fun σ H Q => t σ H Q ∨ u σ H Q) := ⟨fun pins s σ H Q I q => by
  rcases q with q | q
  · exact h.run pins s σ H Q I q
  · exact h'.run pins s σ H Q I q⟩
theorem PI.or2 {tg e : Expr} {t u : TI} (h : PI X tg e t) (h' : PI X tg e u) : PI X tg e (fun σ H R => t σ H R ∨ u σ H R) := ⟨fun pins s σ H R I q => by
  rcases q with q | q
  · exact h.run pins s σ H R I q
  · exact h'.run pins s σ H R I q⟩
def tOr2 (t u : TE) : TE := fun σ H Q => t σ H Q ∨ u σ H Q
def iOr2 (t u : TI) : TI := fun σ H R => t σ H R ∨ u σ H R
theorem str_mul {x : Str} {n : Int} (hx : x.length ≤ 4096) (hn : n ≤ 4096) (hn2 : -(2 ^ 63) ≤ n) : MulOk x n := mulOk_of 4096 4096 hx hn hn2 (by decide) (by decide)
def rMulS : R2 := fun x y H Q => ∃ z n, x = .str z ∧ y = .int n ∧ z.length ≤ 4096 ∧ n ≤ 4096 ∧ -(2 ^ 63) ≤ n ∧ Q (.str (Txt.mul z n)) H
theorem op_mulS : OpR X (binaryOp .Mult) rMulS := by
  intro pins s σ H x y v u Q I rx ry h
  obtain ⟨z, n, rfl, rfl, h1, h2, h3, q⟩ := h
  obtain ⟨t1, rfl⟩ := rx
  obtain ⟨t2, rfl⟩ := ry
  exact SB.mul (str_mul h1 h2 h3) fun t' k => ⟨.str (Txt.mul z n), H, I.tok k, ⟨t', rfl⟩, q⟩
/-! ### one rule an operator -/
def rAddU : R2 := fun x y H Q => rI0 (fun i j => .int (i + j)) x y H Q ∨ (∃ i j, x = .str i ∧ y = .str j ∧ i.length + j.length ≤ sizeLine ∧ Q (.str (i ++ j)) H) ∨ rCat x y H Q
theorem uop_add : OpR X (binaryOp .Add) rAddU := op_add.or (op_add_str.or op_cat)
def rMulU : R2 := fun x y H Q => rI CMul (fun i j => .int (i * j)) x y H Q ∨ rMulS x y H Q ∨ rRep x y H Q
theorem uop_mul : OpR X (binaryOp .Mult) rMulU := op_mul.or (op_mulS.or op_rep)
def rLtU (K : PySem.W.Frag) : R2 := fun x y H Q => rI0 (fun i j => .bl (decide (i < j))) x y H Q ∨ rLtT K x y H Q
theorem uop_lt (hu : X.A.units < cLine) : OpR X (compareOp .Lt) (rLtU X.K) := op_lt.or (op_ltT hu)
def rIsU (neg : Bool) : R2 := fun x y H Q => (y = .non ∧ Q (.bl (if neg then !decide (x = .non) else decide (x = .non))) H) ∨ (∃ a b, x = .ty a ∧ y = .ty b ∧ Q (.bl (if neg then !decide (a = b) else decide (a = b))) H) ∨ (∃ a b, x = .bl a ∧ y = .bl b ∧ Q (.bl (if neg then !decide (a = b) else decide (a = b))) H)
theorem uop_is : OpR X (compareOp .Is) (rIsU false) := op_isN.or (op_isTyB.or op_is_bl)
theorem uop_isnot : OpR X (compareOp .IsNot) (rIsU true) := op_notN.or (op_notTyB.or op_isnot_bl)
def rInS1 : R2 := fun x y H Q => ∃ c z, x = .str ⟨#[c]⟩ ∧ y = .str z ∧ Q (.bl (decide (c ∈ z.cps.toList))) H
def rNotInS1 : R2 := fun x y H Q => ∃ c z, x = .str ⟨#[c]⟩ ∧ y = .str z ∧ Q (.bl (!decide (c ∈ z.cps.toList))) H
/-- in, not in: a list of data, a tuple of flat things, a sign in a text -/
def rInU (K : PySem.W.Frag) : R2 := fun x y H Q => rInD K x y H Q ∨ L2.rIn K false x y H Q ∨ rInS1 x y H Q
def rNotInU (K : PySem.W.Frag) : R2 := fun x y H Q => rNotInD K x y H Q ∨ L2.rIn K true x y H Q ∨ rNotInS1 x y H Q
theorem uop_in (hu : X.A.units + 65 < cLine) : OpR X (compareOp .In) (rInU X.K) := (op_inD hu).or (op_in_seq.or op_in_sign)
theorem uop_notin (hu : X.A.units + 65 < cLine) : OpR X (compareOp .NotIn) (rNotInU X.K) := (op_notInD hu).or (op_notIn_seq.or op_notIn_sign)
variable {a b : Expr} {ta tb : TE} {pos : Pos}
theorem pc_op {op : CmpOp} {r : R2} (ho : OpR X (compareOp op) r) (ha : PE X a ta) (hb : PE X b tb) : PC X op a b (tOp r ta tb) :=
  ⟨fun pins s σ H Q I h => bin ha hb I h fun v u s2 x y H2 I2 rx ry q => ho pins s2 σ H2 x y v u Q I2 rx ry q⟩
theorem PC.or2 {op : CmpOp} {t u : TE} (h : PC X op a b t) (h' : PC X op a b u) : PC X op a b (tOr2 t u) := ⟨fun pins s σ H Q I q => by
  rcases q with q | q
  · exact h.run pins s σ H Q I q
  · exact h'.run pins s σ H Q I q⟩
/-- in, not in, also of a dict -/
theorem pc_in (hu : X.A.units + 65 < cLine) (ha : PE X a ta) (hb : PE X b tb) : PC X .In a b (tOr2 (tOp (rInU X.K) ta tb) (tDIn ta tb)) :=
  PC.or2 (pc_op (uop_in hu) ha hb) (pc_din (by omega) ha hb)
theorem pc_notin (hu : X.A.units + 65 < cLine) (ha : PE X a ta) (hb : PE X b tb) : PC X .NotIn a b (tOr2 (tOp (rNotInU X.K) ta tb) (tDNotIn ta tb)) :=
  PC.or2 (pc_op (uop_notin hu) ha hb) (pc_dnotin (by omega) ha hb)
/-- x[i], also of a dict -/
abbrev tIxU (K : PySem.W.Frag) (ta tb : TE) : TE := tOr2 (tOp (rIx K) ta tb) (tDGet ta tb)
theorem pe_ixU (hu : X.A.units + 1 < cLine) (ha : PE X a ta) (hb : PE X b tb) (hs : PlainIx b := by exact fun _ _ => rfl) : PE X (.Subscript a b pos) (tIxU X.K ta tb) :=
  PE.or2 (pe_ix ix_seq ha hb hs) (pe_dget hu ha hb hs)
def rLenU (K : PySem.W.Frag) : List V → Hp → VK → Prop := fun xs H Q => (∃ p ys, xs = [.ref p] ∧ (SqL K H p ys ∨ SqT K H p ys) ∧ Q (.int ys.length) H) ∨ (∃ z, xs = [.str z] ∧ z.length ≤ sizeLine ∧ Q (.int z.length) H) ∨ rLenT xs H Q
/-- a test by a value's truth -/
def tTr (K : PySem.W.Frag) (t : TE) : TT := fun σ H Q => t σ H fun x H' => ∃ k, TruV K x H' k ∧ Q k H'
theorem pt_tr {e : Expr} {t : TE} (h : PE X e t) (he : ∀ whole, isTrue e X.env whole = (do let v ← whole; standAt e.pos; holding [v] (truthy v)) := by intro _; rfl) : PT X e (tTr X.K t) := pt_truth h he
theorem ucall_len : CallR X (.builtin "len") (rLenU X.K) := call_len_seq.or (call_len_str.or call_len_dT)
end
/-! ### data that may be compared -/
class Dq (α : Type) [Dt α] where
  dec : DecidableEq α
  dep : Nat
  eqv : ∀ x y : α, PyData.eqv (d x) (d y) = decide (x = y)
  lay : ∀ x : α, (d x).canLay0 = true
  depth : ∀ x : α, (d x).depth ≤ dep
instance {α : Type} [Dt α] [h : Dq α] : DecidableEq α := h.dec
theorem beq_dec {α : Type} [DecidableEq α] [BEq α] [LawfulBEq α] (x y : α) : (x == y) = decide (x = y) := by
  by_cases e : x = y
  · subst e; simp
  · rw [decide_eq_false e]; exact beq_eq_false_iff_ne.mpr e
instance : Dq Int := ⟨inferInstance, 0, fun x y => by simp only [Dt.d, PyData.eqv]; exact beq_dec x y, fun _ => by simp [Dt.d, PyData.canLay0], fun _ => by simp [Dt.d, PyData.depth]⟩
instance : Dq Bool := ⟨inferInstance, 0, fun x y => by simp only [Dt.d, PyData.eqv]; exact beq_dec x y, fun _ => by simp [Dt.d, PyData.canLay0], fun _ => by simp [Dt.d, PyData.depth]⟩
instance : Dq Unit := ⟨inferInstance, 0, fun x y => by simp [Dt.d, PyData.eqv], fun _ => by simp [Dt.d, PyData.canLay0], fun _ => by simp [Dt.d, PyData.depth]⟩
theorem eqvAll_map {α : Type} [Dt α] [h : Dq α] : ∀ xs ys : List α, PyData.eqvAll (xs.map d) (ys.map d) = decide (xs = ys)
  | [], [] => by simp [PyData.eqvAll]
  | [], _ :: _ => by simp [PyData.eqvAll]
  | _ :: _, [] => by simp [PyData.eqvAll]
  | x :: xs, y :: ys => by
    simp only [List.map_cons, PyData.eqvAll, Dq.eqv, eqvAll_map xs ys, List.cons.injEq, Bool.decide_and]
theorem layAll_map {α : Type} [Dt α] [h : Dq α] : ∀ xs : List α, PyData.canLayAll0 (xs.map d) = true
  | [] => by simp [PyData.canLayAll0]
  | x :: xs => by simp only [List.map_cons, PyData.canLayAll0, Dq.lay, layAll_map xs, Bool.and_self]
theorem depAll_map {α : Type} [Dt α] [h : Dq α] : ∀ xs : List α, PyData.depthAll (xs.map d) ≤ Dq.dep α
  | [] => by simp [PyData.depthAll]
  | x :: xs => by
    have h1 := Dq.depth x
    have h2 := depAll_map xs
    simp only [List.map_cons, PyData.depthAll]
    omega
instance {α : Type} [Dt α] [h : Dq α] : Dq (List α) := ⟨inferInstance, Dq.dep α + 1, fun xs ys => by simp only [Dt.d, PyData.eqv]; exact eqvAll_map xs ys, fun xs => by simp only [Dt.d, PyData.canLay0]; exact layAll_map xs, fun xs => by simp only [Dt.d, PyData.depth]; exact Nat.succ_le_succ (depAll_map xs)⟩
instance {α β : Type} [Dt α] [Dt β] [h : Dq α] [k : Dq β] : Dq (α × β) := ⟨inferInstance, max (Dq.dep α) (Dq.dep β) + 1,
  fun x y => by
    obtain ⟨a, b⟩ := x
    obtain ⟨a', b'⟩ := y
    simp only [Dt.d, PyData.eqv, PyData.eqvAll, Dq.eqv, Bool.and_true, Prod.mk.injEq, Bool.decide_and],
  fun x => by simp only [Dt.d, PyData.canLay0, PyData.canLayAll0, Dq.lay, Bool.and_self],
  fun x => by
    have h1 := Dq.depth x.1
    have h2 := Dq.depth x.2
    simp only [Dt.d, PyData.depth, PyData.depthAll]
    omega⟩
theorem shaped_of {α : Type} [Dt α] [h : Dq α] (x : α) (hd : Dq.dep α ≤ 64 := by decide) : SeqAt.shaped (d x) = true := by
  have := Dq.depth x
  unfold SeqAt.shaped
  rw [Dq.lay, decide_eq_true (by omega)]
  rfl
mutual
theorem Rv.dp {K : PySem.W.Frag} {F : Hp} : ∀ {e : PyData} {u : V}, e.canLay0 = true → Rv F u e → Dp K F u e
  | .none, _, _, h => by cases h; exact .non
  | .bool _, _, _, h => by cases h; exact .bl _
  | .int _, _, _, h => by cases h; exact .int _
  | .str _, _, _, h => by cases h; exact .str _
  | .list es, _, c, h => by
    cases h with
    | lst a r => exact .lst (SqL.of a) (RvL.dp (by simpa only [PyData.canLay0] using c) r)
  | .tuple es, _, c, h => by
    cases h with
    | tup a r => exact .tup (SqT.of a) (RvL.dp (by simpa only [PyData.canLay0] using c) r)
  | .dict _, _, c, h => by simp [PyData.canLay0] at c
theorem RvL.dp {K : PySem.W.Frag} {F : Hp} : ∀ {es : List PyData} {us : List V}, PyData.canLayAll0 es = true → RvL F us es → DpAll K F us es
  | [], _, _, h => by cases h; exact .nil
  | e :: es, _, c, h => by
    simp only [PyData.canLayAll0, Bool.and_eq_true] at c
    cases h with
    | cons a r => exact .cons (Rv.dp c.1 a) (RvL.dp c.2 r)
end
theorem Rv.dpS {K : PySem.W.Frag} {F H : Hp} (s : Sub F H) {e : PyData} {u : V} (c : SeqAt.shaped e = true) (r : Rv F u e) : Dp K H u e := (r.mono s.same).dp (SeqAt.canLay_of_shaped c)
end Tf

/-! What the readings give on typed data: operators, tests, calls of built-ins, displays, statements. -/
namespace Tf
open PySem PySem.Spec PyProof.Rows L2 Dt
section
variable {T : List (Addr × Str)} {α β γ : Type} [Dt α] [Dt β] [Dt γ] {σ : St} {F G : Hp} {te ta tb tc : TE} {tt tu : TT} {K : PySem.W.Frag}
/-! ### numbers -/
theorem ev_add {i j : Int} (ha : Ev T ta σ F i) (hb : Ev T tb σ F j) : Ev T (tOp rAddU ta tb) σ F (i + j) :=
  ev_pure ha hb fun u w F1 H1 Q _ r1 r2 q => .inl ⟨i, j, rv_int r1, rv_int r2, q _ fun _ => .int _⟩
theorem ev_sub {i j : Int} (ha : Ev T ta σ F i) (hb : Ev T tb σ F j) : Ev T (tOp (rI0 fun i j => .int (i - j)) ta tb) σ F (i - j) :=
  ev_pure ha hb fun u w F1 H1 Q _ r1 r2 q => ⟨i, j, rv_int r1, rv_int r2, q _ fun _ => .int _⟩
theorem ev_mul {i j : Int} (ha : Ev T ta σ F i) (hb : Ev T tb σ F j) (h : CMul i j) : Ev T (tOp rMulU ta tb) σ F (i * j) :=
  ev_pure ha hb fun u w F1 H1 Q _ r1 r2 q => .inl ⟨i, j, rv_int r1, rv_int r2, h, q _ fun _ => .int _⟩
theorem ev_mod {i j : Int} (ha : Ev T ta σ F i) (hb : Ev T tb σ F j) (h : 0 < j) : Ev T (tOp (rI (fun _ j => 0 < j) fun i j => .int (i % j)) ta tb) σ F (i % j) :=
  ev_pure ha hb fun u w F1 H1 Q _ r1 r2 q => ⟨i, j, rv_int r1, rv_int r2, h, q _ fun _ => .int _⟩
theorem ev_fdiv {i j : Int} (ha : Ev T ta σ F i) (hb : Ev T tb σ F j) (h : 0 < j ∧ j < 1073741824) : Ev T (tOp (rI CDiv fun i j => .int (i / j)) ta tb) σ F (i / j) :=
  ev_pure ha hb fun u w F1 H1 Q _ r1 r2 q => ⟨i, j, rv_int r1, rv_int r2, h, q _ fun _ => .int _⟩
theorem ev_neg {i : Int} (ha : Ev T ta σ F i) : Ev T (tUn (rU fun i => .int (-i)) ta) σ F (-i) := fun H s t Q q =>
  ha H s t _ fun u F1 H1 st r => ⟨i, rv_int r, q _ F1 H1 st (.int _)⟩
theorem ev_lt {i j : Int} (ha : Ev T ta σ F i) (hb : Ev T tb σ F j) : Ev T (tOp (rLtU K) ta tb) σ F (decide (i < j)) :=
  ev_pure ha hb fun u w F1 H1 Q _ r1 r2 q => .inl ⟨i, j, rv_int r1, rv_int r2, q _ fun _ => .bl _⟩
theorem ev_cmpI {p : Int → Int → Bool} {i j : Int} (ha : Ev T ta σ F i) (hb : Ev T tb σ F j) : Ev T (tOp (rI0 fun i j => .bl (p i j)) ta tb) σ F (p i j) :=
  ev_pure ha hb fun u w F1 H1 Q _ r1 r2 q => ⟨i, j, rv_int r1, rv_int r2, q _ fun _ => .bl _⟩
theorem ev_ltP {a b c e : Int} {x y : Int × Int} (ha : Ev T ta σ F x) (hb : Ev T tb σ F y) : Ev T (tOp (rLtU K) ta tb) σ F (HT.lexLt [x.1, x.2] [y.1, y.2]) :=
  ev_pure ha hb fun u w F1 H1 Q s r1 r2 q => by
    obtain ⟨p, u1, u2, rfl, a1, b1, b2⟩ := rv_pair r1
    obtain ⟨p', w1, w2, rfl, a2, c1, c2⟩ := rv_pair r2
    cases rv_int b1
    cases rv_int b2
    cases rv_int c1
    cases rv_int c2
    exact .inr ⟨p, p', [x.1, x.2], [y.1, y.2], rfl, rfl, SqT.of (s _ _ a1).1, SqT.of (s _ _ a2).1, q _ fun _ => .bl _⟩
/-! ### == and in -/
theorem ev_eqD {x y : α} [Dq α] (ha : Ev T ta σ F x) (hb : Ev T tb σ F y) (hd : Dq.dep α ≤ 64 := by decide) : Ev T (tOp (rEqD K) ta tb) σ F (decide (x = y)) :=
  ev_pure ha hb fun u w F1 H1 Q s r1 r2 q => ⟨d x, d y, r1.dpS s (shaped_of x hd), r2.dpS s (shaped_of y hd), shaped_of x hd, shaped_of y hd, by rw [Dq.eqv]; exact q _ fun _ => .bl _⟩
theorem ev_neD {x y : α} [Dq α] (ha : Ev T ta σ F x) (hb : Ev T tb σ F y) (hd : Dq.dep α ≤ 64 := by decide) : Ev T (tOp (rNeD K) ta tb) σ F (!decide (x = y)) :=
  ev_pure ha hb fun u w F1 H1 Q s r1 r2 q => ⟨d x, d y, r1.dpS s (shaped_of x hd), r2.dpS s (shaped_of y hd), shaped_of x hd, shaped_of y hd, by rw [Dq.eqv]; exact q _ fun _ => .bl _⟩
/-- bare data -/
theorem ev_eqX {x y : PyData} (ha : Ev T ta σ F x) (hb : Ev T tb σ F y) (hx : SeqAt.shaped x = true) (hy : SeqAt.shaped y = true) : Ev T (tOp (rEqD K) ta tb) σ F (PyData.eqv x y) :=
  ev_pure ha hb fun u w F1 H1 Q s r1 r2 q => ⟨x, y, r1.dpS s hx, r2.dpS s hy, hx, hy, q _ fun _ => .bl _⟩
theorem ev_neX {x y : PyData} (ha : Ev T ta σ F x) (hb : Ev T tb σ F y) (hx : SeqAt.shaped x = true) (hy : SeqAt.shaped y = true) : Ev T (tOp (rNeD K) ta tb) σ F (!PyData.eqv x y) :=
  ev_pure ha hb fun u w F1 H1 Q s r1 r2 q => ⟨x, y, r1.dpS s hx, r2.dpS s hy, hx, hy, q _ fun _ => .bl _⟩
/-- texts -/
theorem shaped_str {x : Str} (h : PyData.strOk x = true) : SeqAt.shaped (d x) = true := by
  unfold SeqAt.shaped
  simp [Dt.d, PyData.canLay0, PyData.depth, h]
theorem eqv_str (x y : Str) : PyData.eqv (d x) (d y) = decide (x = y) := by
  simp only [Dt.d, PyData.eqv]
  exact beq_dec x y
theorem ev_eqS {x y : Str} (ha : Ev T ta σ F x) (hb : Ev T tb σ F y) (hx : PyData.strOk x = true) (hy : PyData.strOk y = true := by decide +kernel) : Ev T (tOp (rEqD K) ta tb) σ F (decide (x = y)) :=
  ev_eq (ev_eqX (x := d x) (y := d y) ha hb (shaped_str hx) (shaped_str hy)) (eqv_str x y)
theorem eqvAll_strs : ∀ xs ys : List Str, PyData.eqvAll (xs.map d) (ys.map d) = decide (xs = ys)
  | [], [] => by simp [PyData.eqvAll]
  | [], _ :: _ => by simp [PyData.eqvAll]
  | _ :: _, [] => by simp [PyData.eqvAll]
  | x :: xs, y :: ys => by simp only [List.map_cons, PyData.eqvAll, eqv_str, eqvAll_strs xs ys, List.cons.injEq, Bool.decide_and]
theorem shaped_strs {xs : List Str} (h : ∀ x ∈ xs, PyData.strOk x = true) : PyData.canLay0 (d xs) = true ∧ (d xs).depth ≤ 1 := by
  induction xs with
  | nil => simp [Dt.d, PyData.canLay0, PyData.canLayAll0, PyData.depth, PyData.depthAll]
  | cons x xs ih =>
    obtain ⟨h1, h2⟩ := ih fun y hy => h y (List.mem_cons_of_mem _ hy)
    simp only [Dt.d, PyData.canLay0, PyData.depth] at h1 h2 ⊢
    simp only [List.map_cons, PyData.canLayAll0, PyData.depthAll, PyData.canLay0, PyData.depth, h1, h x List.mem_cons_self, Bool.and_self, true_and]
    omega
theorem ev_neL {xs ys : List Str} (ha : Ev T ta σ F xs) (hb : Ev T tb σ F ys) (hx : ∀ x ∈ xs, PyData.strOk x = true) (hy : ∀ x ∈ ys, PyData.strOk x = true) : Ev T (tOp (rNeD K) ta tb) σ F (!decide (xs = ys)) := by
  have sh : ∀ {zs : List Str}, (∀ x ∈ zs, PyData.strOk x = true) → SeqAt.shaped (d zs) = true := fun {zs} hz => by
    obtain ⟨h1, h2⟩ := shaped_strs hz
    unfold SeqAt.shaped
    rw [h1, decide_eq_true (Nat.le_trans h2 (by decide))]
    rfl
  refine ev_eq (ev_neX (x := d xs) (y := d ys) ha hb (sh hx) (sh hy)) ?_
  have e : PyData.eqv (d xs) (d ys) = decide (xs = ys) := by
    simp only [Dt.d, PyData.eqv]
    exact eqvAll_strs xs ys
  rw [e]
theorem any_eqv [Dq α] (x : α) : ∀ xs : List α, ((xs.map d).any fun z => PyData.eqv z (d x)) = decide (x ∈ xs)
  | [] => by simp
  | y :: ys => by
    simp only [List.map_cons, List.any_cons, any_eqv x ys, Dq.eqv, List.mem_cons, Bool.decide_or]
    congr 1
    exact decide_eq_decide.mpr ⟨Eq.symm, Eq.symm⟩
theorem ev_in {x : α} {xs : List α} [Dq α] (ha : Ev T ta σ F x) (hb : Ev T tb σ F xs) (hd : Dq.dep α ≤ 60 := by decide) : Ev T (tOr2 (tOp (rInU K) ta tb) (tDIn ta tb)) σ F (decide (x ∈ xs)) := fun H s t Q q =>
  .inl (ev_pure (r := rInU K) ha hb (z := decide (x ∈ xs)) (fun u w F1 H1 Q s r1 r2 q => .inl ⟨d x, xs.map d, r1.dpS s (shaped_of x (by omega)), r2.dpS s (shaped_of xs (by show Dq.dep α + 1 ≤ 64; omega)), shaped_of x (by omega), shaped_of xs (by show Dq.dep α + 1 ≤ 64; omega), by rw [any_eqv]; exact q _ fun _ => .bl _⟩) H s t Q q)
theorem ev_notin {x : α} {xs : List α} [Dq α] (ha : Ev T ta σ F x) (hb : Ev T tb σ F xs) (hd : Dq.dep α ≤ 60 := by decide) : Ev T (tOr2 (tOp (rNotInU K) ta tb) (tDNotIn ta tb)) σ F (!decide (x ∈ xs)) := fun H s t Q q =>
  .inl (ev_pure (r := rNotInU K) ha hb (z := !decide (x ∈ xs)) (fun u w F1 H1 Q s r1 r2 q => .inl ⟨d x, xs.map d, r1.dpS s (shaped_of x (by omega)), r2.dpS s (shaped_of xs (by show Dq.dep α + 1 ≤ 64; omega)), shaped_of x (by omega), shaped_of xs (by show Dq.dep α + 1 ≤ 64; omega), by rw [any_eqv]; exact q _ fun _ => .bl _⟩) H s t Q q)
/-! ### is -/
theorem ev_isN {x : α} {n : Bool} (ha : Ev T ta σ F x) (h : (d x = .none) ↔ n = true) {neg : Bool} : Ev T (tOp (rIsU neg) ta (tC .non)) σ F (if neg then !n else n) :=
  ev_pure ha ev_none fun u w F1 H1 Q s r1 r2 q => by
    cases rv_unit r2
    have e : decide (u = .non) = n := by
      cases hn : n with
      | true =>
        rw [h.mpr hn] at r1
        cases r1
        rfl
      | false =>
        refine decide_eq_false fun z => ?_
        subst z
        have : d x = .none := by
          generalize d x = e at r1
          cases r1
          rfl
        exact absurd (h.mp this) (by rw [hn]; decide)
    refine .inl ⟨rfl, ?_⟩
    rw [e]
    exact q _ fun _ => .bl _
theorem ev_isB {x y : Bool} {neg : Bool} (ha : Ev T ta σ F x) (hb : Ev T tb σ F y) : Ev T (tOp (rIsU neg) ta tb) σ F (if neg then !decide (x = y) else decide (x = y)) :=
  ev_pure ha hb fun u w F1 H1 Q s r1 r2 q => .inr (.inr ⟨x, y, rv_bool r1, rv_bool r2, q _ fun _ => .bl _⟩)
/-! ### truth, tests -/
theorem et_of {b : Bool} (h : Ev T te σ F b) : EvT T (tB te) σ F b := fun H s t Q q => h H s t _ fun v F1 H1 st r => ⟨b, rv_bool r, q H1 st.keep⟩
theorem et_test {b : Bool} (h : Ev T te σ F b) : EvT T (tTest te) σ F b := fun H s t Q q => h H s t _ fun v F1 H1 st r => ⟨b, rv_bool r, q H1 st.keep⟩
theorem et_tr {b : Bool} (h : Ev T te σ F b) : EvT T (tTr K te) σ F b := fun H s t Q q => h H s t _ fun v F1 H1 st r => ⟨b, by cases rv_bool r; rfl, q H1 st.keep⟩
theorem et_trL {xs : List α} (h : Ev T te σ F xs) : EvT T (tTr K te) σ F (!xs.isEmpty) := fun H s t Q q => h H s t _ fun v F1 H1 st r => ⟨_, by
  obtain ⟨p, us, rfl, a, rr⟩ := rv_list r
  refine .inl ⟨us, SqL.of (st.sub _ _ a).1, ?_⟩
  have l := rr.length
  cases us <;> cases xs <;> simp_all, q H1 st.keep⟩
theorem et_and {a b : Bool} (h1 : EvT T tt σ F a) (h2 : a = true → EvT T tu σ F b) : EvT T (tAnd tt tu) σ F (a && b) := fun H s t Q q => h1 H s t _ fun H1 st => by
  cases a with
  | true => exact h2 rfl H1 st.sub st.tab _ fun H2 st2 => q H2 (st.trans st2)
  | false => exact q H1 st
theorem et_or {a b : Bool} (h1 : EvT T tt σ F a) (h2 : a = false → EvT T tu σ F b) : EvT T (tOr tt tu) σ F (a || b) := fun H s t Q q => h1 H s t _ fun H1 st => by
  cases a with
  | true => exact q H1 st
  | false => exact h2 rfl H1 st.sub st.tab _ fun H2 st2 => q H2 (st.trans st2)
theorem et_not {a : Bool} (h : EvT T tt σ F a) : EvT T (tNot tt) σ F (!a) := fun H s t Q q => h H s t _ fun H1 st => q H1 st
theorem ev_andV {a b : Bool} (h1 : Ev T ta σ F a) (h2 : a = true → Ev T tb σ F b) : Ev T (tAndV ta tb) σ F (a && b) := fun H s t Q q => h1 H s t _ fun v F1 H1 st r => ⟨a, rv_bool r, by
  cases a with
  | true => exact ((h2 rfl).mono st.ff) H1 st.sub st.tab Q fun v F2 H2 st2 r2 => q v F2 H2 (st.trans st2) r2
  | false => exact q _ F1 H1 st (.bl _)⟩
theorem ev_orV {a b : Bool} (h1 : Ev T ta σ F a) (h2 : a = false → Ev T tb σ F b) : Ev T (tOrV ta tb) σ F (a || b) := fun H s t Q q => h1 H s t _ fun v F1 H1 st r => ⟨a, rv_bool r, by
  cases a with
  | true => exact q _ F1 H1 st (.bl _)
  | false => exact ((h2 rfl).mono st.ff) H1 st.sub st.tab Q fun v F2 H2 st2 r2 => q v F2 H2 (st.trans st2) r2⟩
theorem ev_notV {a : Bool} (h : Ev T ta σ F a) : Ev T (tNotV ta) σ F (!a) := fun H s t Q q => h H s t _ fun v F1 H1 st r => ⟨a, rv_bool r, q _ F1 H1 st (.bl _)⟩
theorem ev_if {b : Bool} {x : α} (h : EvT T tt σ F b) (h1 : b = true → Ev T ta σ F x) (h2 : b = false → Ev T tb σ F x) : Ev T (tIf tt ta tb) σ F x := fun H s t Q q => h H s t _ fun H1 st => by
  cases b with
  | true => exact h1 rfl H1 st.sub st.tab Q fun v F2 H2 st2 r2 => q v F2 H2 (st.trans st2) r2
  | false => exact h2 rfl H1 st.sub st.tab Q fun v F2 H2 st2 r2 => q v F2 H2 (st.trans st2) r2
theorem ev_ite {b : Bool} {x y : α} (h : EvT T tt σ F b) (h1 : Ev T ta σ F x) (h2 : Ev T tb σ F y) : Ev T (tIf tt ta tb) σ F (if b then x else y) :=
  ev_if h (fun e => by rw [e]; exact h1) (fun e => by rw [e]; exact h2)
/-- a <= b <= c -/
theorem ev_chain {p p' : Int → Int → Bool} {i j k : Int} (ha : Ev T ta σ F i) (hb : Ev T tb σ F j) (hc : Ev T tc σ F k) :
    Ev T (tChain (rI0 fun i j => .bl (p i j)) (rI0 fun i j => .bl (p' i j)) ta tb tc) σ F (p i j && p' j k) := fun H s t Q q =>
  ha H s t _ fun v F1 H1 st r => (hb.mono st.ff) H1 st.sub st.tab _ fun w F2 H2 st2 r2 => ⟨i, j, rv_int r, rv_int r2, p i j, rfl, by
    cases e : p i j with
    | true =>
      refine (hc.mono (st.ff.trans st2.ff)) H2 st2.sub st2.tab _ fun z F3 H3 st3 r3 => ⟨j, k, rv_int r2, rv_int r3, ?_⟩
      have z := q (.bl (p' j k)) F3 H3 ((st.trans st2).trans st3)
      rw [e] at z
      exact z (.bl _)
    | false =>
      have z := q (.bl false) F2 H2 (st.trans st2)
      rw [e] at z
      exact z (.bl _)⟩
/-! ### displays, items -/
theorem ev_tup {es : List PyData} {tr : TA} (h : EvA T tr σ F es) (hl : es.length ≤ 1000) : Ev T (tTup tr) σ F (PyData.tuple es) := fun H s t Q q => h H s t _ fun vs F1 H1 st r =>
  ⟨Nat.le_trans (by have := r.length; omega) (by decide : 1000 ≤ sizeLine), fun p hp => q _ (upd F1 p (.tup vs)) _ (st.trans (.made st.sub st.tab hp nt_tup)) (.tup upd_same (r.mono (st.sub.free hp |> fun z => (Step.made st.sub st.tab hp nt_tup).ff)))⟩
theorem ev_lst {es : List PyData} {tr : TA} (h : EvA T tr σ F es) (hl : es.length ≤ 1000) : Ev T (tLst tr) σ F (PyData.list es) := fun H s t Q q => h H s t _ fun vs F1 H1 st r =>
  ⟨Nat.le_trans (by have := r.length; omega) (by decide : 1000 ≤ sizeLine), fun p hp => q _ (upd F1 p (.lst vs)) _ (st.trans (.made st.sub st.tab hp nt_lst)) (.lst upd_same (r.mono ((Step.made st.sub st.tab hp nt_lst).ff)))⟩
theorem ev_pair {x : α} {y : β} (h1 : Ev T ta σ F x) (h2 : Ev T tb σ F y) : Ev T (tTup (tCons ta (tCons tb tNil))) σ F (x, y) := ev_tup (ea_cons h1 (ea_cons h2 ea_nil)) (Nat.le_of_ble_eq_true rfl)
/-- the arguments are the items of xs -/
inductive EvXs (T : List (Addr × Str)) {α : Type} [Dt α] (σ : St) (F : Hp) : TA → List α → Prop
  | nil : EvXs T σ F tNil []
  | cons {te : TE} {x : α} {tr : TA} {xs : List α} (h : Ev T te σ F x) (hr : EvXs T σ F tr xs) : EvXs T σ F (tCons te tr) (x :: xs)
theorem EvXs.a : ∀ {tr : TA} {xs : List α}, EvXs T σ F tr xs → EvA T tr σ F (xs.map d)
  | _, _, .nil => ea_nil
  | _, _, .cons h r => ea_cons h r.a
theorem ev_list {tr : TA} {xs : List α} (h : EvXs T σ F tr xs) (hl : xs.length ≤ 1000 := by exact Nat.le_of_ble_eq_true rfl) : Ev T (tLst tr) σ F xs := ev_lst h.a (by rw [List.length_map]; exact hl)
theorem ev_cat {xs ys : List α} (ha : Ev T ta σ F xs) (hb : Ev T tb σ F ys) (hl : xs.length + ys.length ≤ 100000) : Ev T (tOp rAddU ta tb) σ F (xs ++ ys) :=
  ev_op ha hb fun u w F1 H1 Q _ s t r1 r2 q => by
    obtain ⟨p, us, rfl, a1, b1⟩ := rv_list r1
    obtain ⟨p', ws, rfl, a2, b2⟩ := rv_list r2
    have l1 := b1.length
    have l2 := b2.length
    rw [List.length_map] at l1 l2
    refine .inr (.inr ⟨p, p', us, ws, rfl, rfl, (s _ _ a1).1, (s _ _ a2).1, Nat.le_trans (by omega) (by decide : 100000 ≤ sizeLine), fun x hx => ?_⟩)
    have st := Step.made (o := .lst (us ++ ws)) s t hx nt_lst
    refine q _ _ _ st (.lst upd_same ?_)
    rw [List.map_append]
    exact (b1.app b2).mono st.ff
theorem atI_get? {ι : Type} {xs : List ι} {i : Int} {x : ι} (h0 : 0 ≤ i) (h : xs[i.toNat]? = some x) : atI xs i = some x := by
  have e : i = (i.toNat : Int) := (Int.toNat_of_nonneg h0).symm
  rw [e]
  exact atI_nat h
theorem ev_ixL {xs : List α} {i : Int} {x : α} (ha : Ev T ta σ F xs) (hb : Ev T tb σ F i) (h0 : 0 ≤ i) (h : xs[i.toNat]? = some x) : Ev T (tIxU K ta tb) σ F x := fun H s t Q q =>
  .inl (ev_op (r := L2.rIx K) ha hb (z := x) (fun u w F1 H1 Q _ s t r1 r2 q => by
    obtain ⟨p, us, rfl, a1, b1⟩ := rv_list r1
    cases rv_int r2
    obtain ⟨u, h1, h2⟩ := b1.at_ h
    exact .inl ⟨p, us, i, u, rfl, rfl, SqL.of (s _ _ a1).1, atI_get? h0 h1, q _ F1 H1 (.refl s t) h2⟩) H s t Q q)
theorem ev_ix0 {x : α × β} (ha : Ev T ta σ F x) : Ev T (tIxU K ta (tC (.int 0))) σ F x.1 := fun H s t Q q =>
  .inl (ev_op (r := L2.rIx K) ha ev_int (z := x.1) (fun u w F1 H1 Q _ s t r1 r2 q => by
    obtain ⟨p, u1, u2, rfl, a1, b1, b2⟩ := rv_pair r1
    cases rv_int r2
    exact .inr (.inl ⟨p, [u1, u2], 0, u1, rfl, rfl, SqT.of (s _ _ a1).1, atI_nat (j := 0) rfl, q _ F1 H1 (.refl s t) b1⟩)) H s t Q q)
theorem ev_ix1 {x : α × β} (ha : Ev T ta σ F x) : Ev T (tIxU K ta (tC (.int 1))) σ F x.2 := fun H s t Q q =>
  .inl (ev_op (r := L2.rIx K) ha ev_int (z := x.2) (fun u w F1 H1 Q _ s t r1 r2 q => by
    obtain ⟨p, u1, u2, rfl, a1, b1, b2⟩ := rv_pair r1
    cases rv_int r2
    exact .inr (.inl ⟨p, [u1, u2], 1, u2, rfl, rfl, SqT.of (s _ _ a1).1, atI_nat (j := 1) rfl, q _ F1 H1 (.refl s t) b2⟩)) H s t Q q)
/-! ### built-ins -/
theorem ev_cb {r : List V → Hp → VK → Prop} {tr : TA} {es : List PyData} {z : γ} (h : EvA T tr σ F es)
    (hr : ∀ (vs : List V) (F1 H1 : Hp) (Q : VK), Same F F1 → Sub F1 H1 → LamX.Tabs T H1 → RvL F1 vs es → (∀ v F' H', Step T F1 F' H1 H' → Rv F' v (d z) → Q v H') → r vs H1 Q) : Ev T (tCB r tr) σ F z := fun H s t Q q =>
  h H s t _ fun vs F1 H1 st r1 => hr vs F1 H1 Q st.ff st.sub st.tab r1 fun v F' H' st2 r2 => q v F' H' (st.trans st2) r2
theorem rvl1 {F : Hp} {vs : List V} {x : α} (h : RvL F vs [d x]) : ∃ v, vs = [v] ∧ Rv F v (d x) := by
  cases h with
  | cons a r =>
    cases r
    exact ⟨_, rfl, a⟩
theorem rvl2 {F : Hp} {vs : List V} {x : α} {y : β} (h : RvL F vs [d x, d y]) : ∃ v w, vs = [v, w] ∧ Rv F v (d x) ∧ Rv F w (d y) := by
  cases h with
  | cons a r =>
    obtain ⟨w, rfl, b⟩ := rvl1 r
    exact ⟨_, w, rfl, a, b⟩
theorem rvl3 {F : Hp} {vs : List V} {x : α} {y : β} {z : γ} (h : RvL F vs [d x, d y, d z]) : ∃ v w u, vs = [v, w, u] ∧ Rv F v (d x) ∧ Rv F w (d y) ∧ Rv F u (d z) := by
  cases h with
  | cons a r =>
    obtain ⟨w, u, rfl, b, c⟩ := rvl2 r
    exact ⟨_, w, u, rfl, a, b, c⟩
theorem ev_len {xs : List α} (h : Ev T te σ F xs) : Ev T (tCB (rLenU K) (tCons te tNil)) σ F (xs.length : Int) :=
  ev_cb (ea_cons h ea_nil) fun vs F1 H1 Q _ s t r q => by
    obtain ⟨v, rfl, r1⟩ := rvl1 r
    obtain ⟨p, us, rfl, a, b⟩ := rv_list r1
    have l := b.length
    rw [List.length_map] at l
    refine .inl ⟨p, us, rfl, .inl (SqL.of (s _ _ a).1), ?_⟩
    rw [l]
    exact q _ F1 H1 (.refl s t) (.int _)
def rListU (K : PySem.W.Frag) : List V → Hp → VK → Prop := fun vs H Q => (∃ p ys, vs = [.ref p] ∧ (SqL K H p ys ∨ SqT K H p ys) ∧ ∀ l, H l = none → Q (.ref l) (upd H l (.lst ys))) ∨ (∃ d kvs, vs = [V.ref d] ∧ Rd H d (.dT kvs) ∧ ∀ p bs, H p = none → IsKeys H kvs bs → Q (.ref p) (upd H p (.lst (bs.map V.ref))))
theorem ev_listOfN {xs : List α} (h : Ev T te σ F xs) : EvN T (tCB (rListU K) (tCons te tNil)) σ F xs := fun H s t Q q =>
  h H s t _ fun v F1 H1 st r => by
    obtain ⟨p, us, rfl, a, b⟩ := rv_list r
    refine .inl ⟨p, us, rfl, .inl (SqL.of (st.sub _ _ a).1), fun l hl => ?_⟩
    have s2 := Step.made (o := .lst us) st.sub st.tab hl nt_lst
    exact q _ _ _ (st.trans s2) (.lst upd_same (b.mono s2.ff)) fun p e => by
      cases e
      exact st.ext.live _ hl
theorem ev_listOf {xs : List α} (h : Ev T te σ F xs) : Ev T (tCB (rListU K) (tCons te tNil)) σ F xs := (ev_listOfN h).ev
theorem rvl_bools {F : Hp} : ∀ {vs : List V} {bs : List Bool}, RvL F vs (bs.map d) → vs = bs.map V.bl
  | _, [], h => by cases h; rfl
  | _, b :: bs, h => by
    cases h with
    | cons a r =>
      rw [rv_bool a, rvl_bools r]
      rfl
theorem rvl_ints {F : Hp} : ∀ {vs : List V} {bs : List Int}, RvL F vs (bs.map d) → vs = bs.map V.int
  | _, [], h => by cases h; rfl
  | _, b :: bs, h => by
    cases h with
    | cons a r =>
      rw [rv_int a, rvl_ints r]
      rfl
theorem ev_all {bs : List Bool} (h : Ev T te σ F bs) : Ev T (tCB (rAll K) (tCons te tNil)) σ F (bs.all id) :=
  ev_cb (ea_cons h ea_nil) fun vs F1 H1 Q _ s t r q => by
    obtain ⟨v, rfl, r1⟩ := rvl1 r
    obtain ⟨p, us, rfl, a, b⟩ := rv_list r1
    rw [rvl_bools b] at a
    exact ⟨p, bs, rfl, SqL.of (s _ _ a).1, q _ F1 H1 (.refl s t) (.bl _)⟩
theorem ev_any {bs : List Bool} (h : Ev T te σ F bs) : Ev T (tCB (rAny K) (tCons te tNil)) σ F (bs.any id) :=
  ev_cb (ea_cons h ea_nil) fun vs F1 H1 Q _ s t r q => by
    obtain ⟨v, rfl, r1⟩ := rvl1 r
    obtain ⟨p, us, rfl, a, b⟩ := rv_list r1
    rw [rvl_bools b] at a
    exact ⟨p, bs, rfl, SqL.of (s _ _ a).1, q _ F1 H1 (.refl s t) (.bl _)⟩
theorem ev_max2 {i j : Int} (ha : Ev T ta σ F i) (hb : Ev T tb σ F j) : Ev T (tCB (fun xs H Q => ∃ i j, xs = [.int i, .int j] ∧ Q (.int (if j > i then j else i)) H) (tCons ta (tCons tb tNil))) σ F (if j > i then j else i) :=
  ev_cb (ea_cons ha (ea_cons hb ea_nil)) fun vs F1 H1 Q _ s t r q => by
    obtain ⟨v, w, rfl, r1, r2⟩ := rvl2 r
    exact ⟨i, j, by rw [rv_int r1, rv_int r2], q _ F1 H1 (.refl s t) (.int _)⟩
theorem ev_min2 {i j : Int} (ha : Ev T ta σ F i) (hb : Ev T tb σ F j) : Ev T (tCB (fun xs H Q => ∃ i j, xs = [.int i, .int j] ∧ Q (.int (if j < i then j else i)) H) (tCons ta (tCons tb tNil))) σ F (if j < i then j else i) :=
  ev_cb (ea_cons ha (ea_cons hb ea_nil)) fun vs F1 H1 Q _ s t r q => by
    obtain ⟨v, w, rfl, r1, r2⟩ := rvl2 r
    exact ⟨i, j, by rw [rv_int r1, rv_int r2], q _ F1 H1 (.refl s t) (.int _)⟩
end
end Tf

/-! What is walked, as a list of data; loops and comprehensions over it; statements. -/
namespace Tf
open PySem PySem.Spec PyProof.Rows L2 Dt
/-- the walk J yields the items es, each with what is new for it -/
structure Walk (T : List (Addr × Str)) (J : It) (F : Hp) (es : List PyData) : Prop where
  stop : ∀ H, Sub F H → J.stop es.length H
  go : ∀ i H, Sub F H → i < es.length → J.go i H
  yld : ∀ i H v H', Sub F H → LamX.Tabs T H → i < es.length → J.yld i H v H' → ∃ e F', es[i]? = some e ∧ Step T F F' H H' ∧ Rv F' v e
/-- an iterable -/
def EvI (T : List (Addr × Str)) (wi : TI) (σ : St) (F : Hp) (es : List PyData) : Prop :=
  ∀ H, Sub F H → LamX.Tabs T H → ∀ R : It → Hp → Prop, (∀ J F' H', Step T F F' H H' → Walk T J F' es → R J H') → wi σ H R
section
variable {T : List (Addr × Str)} {α β γ : Type} [Dt α] [Dt β] [Dt γ] {σ : St} {F G : Hp} {te ta tb tc tl : TE} {tt tu : TT} {K : PySem.W.Frag} {wi wj : TI} {es : List PyData} {J : It}
theorem Walk.mono (l : Same F G) (w : Walk T J F es) : Walk T J G es := ⟨fun H s => w.stop H (s.less l), fun i H s h => w.go i H (s.less l) h, fun i H v H' s t h y => by
  obtain ⟨e, F', h1, st, r⟩ := w.yld i H v H' (s.less l) t h y
  exact ⟨e, _, h1, st.over l s, r.mono (join_r (s.ext st.ext).same st.sub.same)⟩⟩
theorem EvI.mono (l : Same F G) (h : EvI T wi σ F es) : EvI T wi σ G es := fun H s t R q => h H (s.less l) t R fun J F' H' st w =>
  q J _ H' (st.over l s) (w.mono (join_r (s.ext st.ext).same st.sub.same))
theorem EvI.left (h : EvI T wi σ F es) : EvI T (fun σ H R => wi σ H R ∨ wj σ H R) σ F es := fun H s t R q => .inl (h H s t R q)
theorem EvI.right (h : EvI T wj σ F es) : EvI T (fun σ H R => wi σ H R ∨ wj σ H R) σ F es := fun H s t R q => .inr (h H s t R q)
theorem walk_list {p : Addr} {us : List V} (a : F p = some (.lst us)) (r : RvL F us es) : Walk T (Itl K p) F es := by
  have l := r.length
  refine ⟨fun H s => ⟨us, SqL.of (s _ _ a).1, by omega⟩, fun i H s hi => ⟨us, us[i]'(by omega), SqL.of (s _ _ a).1, by simp⟩, fun i H v H' s t hi y => ?_⟩
  obtain ⟨rfl, y⟩ := y
  obtain ⟨u, h1, h2⟩ := r.get (i := i) (e := es[i]) (by simp)
  have h3 := y us (SqL.of (s _ _ a).1)
  rw [h1] at h3
  cases h3
  exact ⟨es[i], F, by simp, .refl s t, h2⟩
theorem walk_tup {p : Addr} {us : List V} (a : F p = some (.tup us)) (r : RvL F us es) : Walk T (Itt K p) F es := by
  have l := r.length
  refine ⟨fun H s => ⟨us, SqT.of (s _ _ a).1, by omega⟩, fun i H s hi => ⟨us, us[i]'(by omega), SqT.of (s _ _ a).1, by simp⟩, fun i H v H' s t hi y => ?_⟩
  obtain ⟨rfl, y⟩ := y
  obtain ⟨u, h1, h2⟩ := r.get (i := i) (e := es[i]) (by simp)
  have h3 := y us (SqT.of (s _ _ a).1)
  rw [h1] at h3
  cases h3
  exact ⟨es[i], F, by simp, .refl s t, h2⟩
theorem ei_list {xs : List α} (h : Ev T tl σ F xs) : EvI T (iList K tl) σ F (xs.map d) := fun H s t R q => h H s t _ fun v F1 H1 st r => by
  obtain ⟨p, us, rfl, a, b⟩ := rv_list r
  exact ⟨p, rfl, ⟨us, SqL.of (st.sub _ _ a).1⟩, q _ F1 H1 st (walk_list a b)⟩
theorem ei_tuple (h : Ev T tl σ F (PyData.tuple es)) : EvI T (iTup K tl) σ F es := fun H s t R q => h H s t _ fun v F1 H1 st r => by
  have r' : Rv F1 v (.tuple es) := r
  cases r' with
  | tup a b => exact ⟨_, rfl, ⟨_, SqT.of (st.sub _ _ a).1⟩, q _ F1 H1 st (walk_tup a b)⟩
/-- lo, lo + 1, .. -/
def rangeI (lo : Int) (n : Nat) : List Int := (List.range n).map fun (k : Nat) => lo + (k : Int)
theorem rangeI_length (lo : Int) (n : Nat) : (rangeI lo n).length = n := by simp [rangeI]
theorem rangeI_get {lo : Int} {n i : Nat} (h : i < n) : (rangeI lo n)[i]? = some (lo + (i : Int)) := by simp [rangeI, h]
theorem walk_range {lo : Int} {n : Nat} : Walk T (Itr lo n) F ((rangeI lo n).map d) := by
  have l : ((rangeI lo n).map d).length = n := by rw [List.length_map, rangeI_length]
  refine ⟨fun H s => by rw [l]; exact Nat.le_refl n, fun i H s hi => by rw [l] at hi; exact hi, fun i H v H' s t hi y => ?_⟩
  obtain ⟨rfl, rfl⟩ := y
  rw [l] at hi
  exact ⟨d (lo + (i : Int)), F, by rw [List.getElem?_map, rangeI_get hi]; rfl, .refl s t, .int _⟩
theorem ei_range1 {n : Int} (h : Ev T te σ F n) (h1 : n ≤ 1000000) (h0 : 0 ≤ n) : EvI T (iRng1 (tCons te tNil)) σ F ((rangeI 0 n.toNat).map d) := fun H s t R q =>
  ea_cons h ea_nil H s t _ fun vs F1 H1 st r => by
    obtain ⟨v, rfl, r1⟩ := rvl1 r
    exact ⟨n, by rw [rv_int r1], by omega, by omega, q _ F1 H1 st walk_range⟩
theorem ei_range2 {lo n : Int} (h : Ev T ta σ F lo) (h' : Ev T tb σ F n) (h1 : -1000000 ≤ lo ∧ lo ≤ 1000000) (h2 : -1000000 ≤ n ∧ n ≤ 1000000) : EvI T (iRng2 (tCons ta (tCons tb tNil))) σ F ((rangeI lo (n - lo).toNat).map d) := fun H s t R q =>
  ea_cons h (ea_cons h' ea_nil) H s t _ fun vs F1 H1 st r => by
    obtain ⟨v, w, rfl, r1, r2⟩ := rvl2 r
    exact ⟨lo, n, by rw [rv_int r1, rv_int r2], ⟨by omega, by omega, by omega, by omega⟩, q _ F1 H1 st walk_range⟩
theorem ei_str {x : Str} (h : Ev T te σ F x) : EvI T (iStr te) σ F (x.cps.toList.map fun c => d (⟨#[c]⟩ : Str)) := fun H s t R q => h H s t _ fun v F1 H1 st r =>
  ⟨x, rv_str r, q _ F1 H1 st ⟨fun H s => by show x.cps.size ≤ _; simp, fun i H s hi => by show i < x.cps.size; simpa using hi, fun i H v H' s t hi y => by
    obtain ⟨rfl, c, hc, rfl⟩ := y
    exact ⟨d (⟨#[c]⟩ : Str), F1, by rw [List.getElem?_map, Array.getElem?_toList, hc]; rfl, .refl s t, .str _⟩⟩⟩
/-! ### targets -/
/-- the target takes v, and the slots are σ' -/
def EvG (g : TG) (v : V) (σ : St) (F : Hp) (σ' : St) : Prop := ∀ H, Sub F H → ∀ Q : St → Hp → Prop, Q σ' H → g v σ H Q
theorem eg_name {i : Nat} {v : V} : EvG (gName i) v σ F (σ.set i (some v)) := fun H s Q q => q
theorem eg_two {i j : Nat} {p : Addr} {u w : V} (a : F p = some (.tup [u, w])) : EvG (gTup K 2 (gCons (gName i) (gCons (gName j) gNil))) (.ref p) σ F ((σ.set i (some u)).set j (some w)) := fun H s Q q =>
  ⟨p, [u, w], rfl, SqT.of (s _ _ a).1, rfl, u, [w], rfl, w, [], rfl, rfl, q⟩
/-! ### comprehensions -/
theorem tabs_mut {H : Hp} {p : Addr} {o u : HO} (t : LamX.Tabs T H) (h : H p = some o) (n : notTbl o) (m : ∀ φ, o ≠ .ext φ) : LamX.Tabs T (upd H p u) := fun q hq => by
  obtain ⟨ps, hps, h6, h7⟩ := t q hq
  have n1 : q.1 ≠ p := fun z => by
    rw [z, h] at hps
    cases hps
    exact n ps rfl
  refine ⟨ps, by rw [upd_ne n1]; exact hps, h6, fun pos cv hc => ?_⟩
  obtain ⟨c, h8, h9⟩ := h7 pos cv hc
  have n2 : c ≠ p := fun z => by
    rw [z, h] at h9
    cases h9
    exact m _ rfl
  exact ⟨c, h8, by rw [upd_ne n2]; exact h9⟩
theorem rvl_snoc {F : Hp} {us : List V} {es : List PyData} {u : V} {e : PyData} (r : RvL F us es) (h : Rv F u e) : RvL F (us ++ [u]) (es ++ [e]) := r.app (.one h)
theorem take_snoc {ι : Type} {l : List ι} {i : Nat} {x : ι} (h : l[i]? = some x) : l.take (i + 1) = l.take i ++ [x] := by
  rw [List.take_succ, h]
  rfl
/-- [f x for target in items if p x] -/
theorem ev_lcN {g : TG} {vs : List Nat} {xs : List α} {f : α → β} {p : α → Bool} (h : EvI T wi σ F (xs.map d)) (hz : xs.length ≤ 100000)
    (each : ∀ (F1 : Hp) (x : α) (v : V), Same F F1 → x ∈ xs → Rv F1 v (d x) → ∃ σ', EvG g v (wipe σ vs) F1 σ' ∧ wipe σ' vs = wipe σ vs ∧ EvT T tt σ' F1 (p x) ∧ (p x = true → Ev T te σ' F1 (f x))) :
    EvN T (tLc wi g tt te vs) σ F ((xs.filter p).map f) := fun H s t Q q => h H s t _ fun J F1 H1 st w D hD => by
  have zl : (xs.map d).length = xs.length := List.length_map ..
  refine ⟨fun i m H' => m = xs.length - i ∧ i ≤ xs.length ∧ ∃ Fi acc, Same F1 Fi ∧ Sub Fi H' ∧ Fi D = none ∧ H' D = some (.lst acc) ∧ RvL Fi acc ((((xs.take i).filter p).map f).map d) ∧ Ext H1 H' ∧ (∀ a, F1 a = none → Wr H1 a → Fi a = none) ∧ LamX.Tabs T H',
    ⟨xs.length, by simp, Nat.zero_le _, F1, [], Same.refl F1, ?_, st.sub.free hD, upd_same, .nil, Ext.new hD, fun _ h _ => h, tabs_new st.tab hD⟩, ?_⟩
  · exact st.sub.mut (st.sub.free hD)
  rintro i m H' ⟨rfl, hi, Fi, acc, l1, s1, d1, d2, r1, e1, n1, t1⟩
  by_cases hlt : i < xs.length
  · refine .inr ⟨(w.mono l1).go i H' s1 (by omega), fun H'' => i + 1 ≤ xs.length ∧ ∃ Fi acc, Same F1 Fi ∧ Sub Fi H'' ∧ Fi D = none ∧ H'' D = some (.lst acc) ∧ RvL Fi acc ((((xs.take (i + 1)).filter p).map f).map d) ∧ Ext H1 H'' ∧ (∀ a, F1 a = none → Wr H1 a → Fi a = none) ∧ LamX.Tabs T H'',
      fun H'' ⟨h1, h2⟩ => ⟨xs.length - (i + 1), by omega, rfl, h1, h2⟩, fun v H2 y => ?_⟩
    obtain ⟨e, F2, he, st2, rv⟩ := (w.mono l1).yld i H' v H2 s1 t1 (by omega) y
    have hx : xs[i]? = some xs[i] := List.getElem?_eq_getElem hlt
    rw [List.getElem?_map, hx] at he
    cases he
    obtain ⟨σ', hg, hw, ht, hev⟩ := each F2 xs[i] v (st.ff.trans (l1.trans st2.ff)) (List.getElem_mem hlt) rv
    refine hg H2 st2.sub _ ⟨hw, ht H2 st2.sub st2.tab _ fun H3 st3 => ?_⟩
    have alive : Wr H' D := wr_lst d2
    have d3 : F2 D = none := st2.new D d1 alive
    have keepD : H3 D = some (.lst acc) := st3.ext.keep D _ (st2.ext.keep D _ d2 nt_lst) nt_lst
    cases hp : p xs[i] with
    | true =>
      refine hev hp H3 st3.sub st3.tab _ fun w4 F4 H4 st4 r4 => ?_
      have d4 : F4 D = none := st4.new D d3 (wr_lst keepD)
      refine ⟨acc, st4.ext.keep D _ keepD nt_lst, ?_, hlt, F4, acc ++ [w4], l1.trans (st2.ff.trans st4.ff), st4.sub.mut d4, d4, upd_same, ?_, ?_, ?_, ?_⟩
      · have := r1.length
        rw [List.length_map, List.length_map] at this
        have h5 := List.length_filter_le p (xs.take i)
        rw [List.length_take] at h5
        exact Nat.lt_of_le_of_lt (by omega : acc.length ≤ 100000) (by decide : 100000 < sizeLine)
      · rw [take_snoc hx, List.filter_append, List.map_append, List.map_append, List.filter_cons, if_pos hp]
        exact rvl_snoc (r1.mono (st2.ff.trans st4.ff)) r4
      · exact (((e1.trans st2.ext).trans st3.ext).trans st4.ext).mut hD
      · intro a ha hb
        exact st4.new a (st2.new a (n1 a ha hb) (hb.ext e1)) (((hb.ext e1).ext st2.ext).ext st3.ext)
      · exact tabs_mut st4.tab (st4.ext.keep D _ keepD nt_lst) nt_lst fun φ z => nomatch z
    | false =>
      refine ⟨hlt, F2, acc, l1.trans st2.ff, st3.sub, d3, keepD, ?_, (e1.trans st2.ext).trans st3.ext, ?_, st3.tab⟩
      · rw [take_snoc hx, List.filter_append, List.map_append, List.map_append, List.filter_cons, if_neg (by rw [hp]; decide)]
        show RvL F2 acc (_ ++ [])
        rw [List.append_nil]
        exact r1.mono st2.ff
      · intro a ha hb
        exact st2.new a (n1 a ha hb) (hb.ext e1)
  · have ei : i = xs.length := by omega
    subst ei
    have hs := (w.mono l1).stop H' s1
    rw [zl] at hs
    refine .inl ⟨hs, q _ (upd Fi D (.lst acc)) H' ⟨?_, ?_, st.ext.trans e1, ?_, t1⟩ ?_ fun p e => by cases e; exact st.ext.live _ hD⟩
    · intro a o ha
      have := l1 a o (st.ff a o ha)
      rw [upd_ne (ne_of_none this d1)]
      exact this
    · intro a o ha
      by_cases z : a = D
      · subst z
        rw [upd_same] at ha
        cases ha
        exact ⟨d2, nt_lst⟩
      · rw [upd_ne z] at ha
        exact s1 a o ha
    · intro a ha hb
      have z : a ≠ D := fun z => hb.some (st.ext.live a (by rw [z]; exact hD))
      rw [upd_ne z]
      exact n1 a (st.new a ha hb) (hb.ext st.ext)
    · rw [List.take_length] at r1
      exact .lst upd_same (r1.mono fun a o ha => by
        rw [upd_ne (ne_of_none ha d1)]
        exact ha)
theorem ev_lc {g : TG} {vs : List Nat} {xs : List α} {f : α → β} {p : α → Bool} (h : EvI T wi σ F (xs.map d)) (hz : xs.length ≤ 100000)
    (each : ∀ (F1 : Hp) (x : α) (v : V), Same F F1 → x ∈ xs → Rv F1 v (d x) → ∃ σ', EvG g v (wipe σ vs) F1 σ' ∧ wipe σ' vs = wipe σ vs ∧ EvT T tt σ' F1 (p x) ∧ (p x = true → Ev T te σ' F1 (f x))) :
    Ev T (tLc wi g tt te vs) σ F ((xs.filter p).map f) := (ev_lcN h hz each).ev
end
end Tf

/-! Statements, own lists that are written, calls of defs. -/
namespace Tf
open PySem PySem.Spec PyProof.Rows L2 Dt
section
variable {T : List (Addr × Str)} {α β γ δ ε : Type} [Dt α] [Dt β] [Dt γ] [Dt δ] [Dt ε] {σ : St} {F G F0 H0 H : Hp} {te ta tb tc tl : TE} {tt : TT} {tu tw : TS} {K : PySem.W.Frag} {wi wj : TI} {es : List PyData} {D : Ends} {g : TG}
/-! ### statements -/
theorem s_asg {i : Nat} {x : α} (h : Ev T te σ F x) (st : Step T F0 F H0 H) (k : ∀ v F' H', Step T F F' H H' → Step T F0 F' H0 H' → Rv F' v (d x) → D.nx (σ.set i (some v)) H') : tAsg te (gName i) D σ H :=
  h H st.sub st.tab _ fun v F' H' s r => k v F' H' s (st.trans s) r
theorem s_asgG {x : α} (h : Ev T te σ F x) (st : Step T F0 F H0 H) (k : ∀ v F' H', Step T F F' H H' → Step T F0 F' H0 H' → Rv F' v (d x) → g v σ H' D.nx) : tAsg te g D σ H :=
  h H st.sub st.tab _ fun v F' H' s r => k v F' H' s (st.trans s) r
theorem s_ret {x : α} (h : Ev T te σ F x) (st : Step T F0 F H0 H) (k : ∀ v F' H', Step T F0 F' H0 H' → Rv F' v (d x) → D.rt v H') : tRet te D σ H :=
  h H st.sub st.tab _ fun v F' H' s r => k v F' H' (st.trans s) r
theorem s_if {b : Bool} (h : EvT T tt σ F b) (st : Step T F0 F H0 H) (h1 : b = true → ∀ H', Step T F F H H' → Step T F0 F H0 H' → tu D σ H') (h2 : b = false → ∀ H', Step T F F H H' → Step T F0 F H0 H' → tw D σ H') : tIfS tt tu tw D σ H :=
  h H st.sub st.tab _ fun H' s => by
    cases b with
    | true => exact h1 rfl H' s (st.trans s)
    | false => exact h2 rfl H' s (st.trans s)
theorem s_drop {x : α} (h : Ev T te σ F x) (st : Step T F0 F H0 H) (k : ∀ H', Step T F F H H' → Step T F0 F H0 H' → D.nx σ H') : tDrop te D σ H :=
  h H st.sub st.tab _ fun v F' H' s r => k H' s.keep (st.trans s.keep)
/-- a, b = x, y -/
theorem s_par {i j : Nat} {tr : TA} {x : α} {y : β} (h1 : Ev T ta σ F x) (h2 : Ev T tb σ F y) (st : Step T F0 F H0 H) (k : ∀ v w F' H', Step T F F' H H' → Step T F0 F' H0 H' → Rv F' v (d x) → Rv F' w (d y) → D.nx ((σ.set i (some v)).set j (some w)) H') : tPar i j (tCons ta (tCons tb tNil)) D σ H :=
  ea_cons h1 (ea_cons h2 ea_nil) H st.sub st.tab _ fun vs F' H' s r => by
    obtain ⟨v, w, rfl, r1, r2⟩ := rvl2 r
    exact ⟨v, w, rfl, k v w F' H' s (st.trans s) r1 r2⟩
theorem s_for {tb : TS} (h : EvI T wi σ F es) (st : Step T F0 F H0 H) (I : Nat → St → Hp → Hp → Prop)
    (h0 : ∀ F' H', Step T F F' H H' → I 0 σ F' H')
    (turn : ∀ i e v σ1 F1 H1 F2 H2, es[i]? = some e → Same F F1 → Step T F0 F1 H0 H1 → I i σ1 F1 H1 → Step T F1 F2 H1 H2 → Rv F2 v e →
      ∀ N : St → Hp → Prop, (∀ σ' F' H', Same F2 F' → Step T F0 F' H0 H' → I (i + 1) σ' F' H' → N σ' H') → g v σ1 H2 fun σ2 H3 => tb { D with nx := N, ct := N, bk := D.nx } σ2 H3)
    (done : ∀ σ' F' H', Same F F' → Step T F0 F' H0 H' → I es.length σ' F' H' → D.nx σ' H') : tFor wi g tb D σ H := h H st.sub st.tab _ fun J F1 H1 s w => by
  refine ⟨fun i m σ' H' => m = es.length - i ∧ i ≤ es.length ∧ ∃ F', Same F1 F' ∧ Step T F0 F' H0 H' ∧ I i σ' F' H', ⟨es.length, by simp, Nat.zero_le _, F1, Same.refl _, st.trans s, h0 F1 H1 s⟩, ?_⟩
  rintro i m σ' H' ⟨rfl, hi, F', l, st', hI⟩
  by_cases hlt : i < es.length
  · refine .inr ⟨(w.mono l).go i H' st'.sub hlt, fun σ2 H2 => i + 1 ≤ es.length ∧ ∃ F', Same F1 F' ∧ Step T F0 F' H0 H2 ∧ I (i + 1) σ2 F' H2, fun σ2 H2 ⟨h1, h2⟩ => ⟨es.length - (i + 1), by omega, rfl, h1, h2⟩, fun v H2 y => ?_⟩
    obtain ⟨e, F2, he, s2, rv⟩ := (w.mono l).yld i H' v H2 st'.sub st'.tab hlt y
    exact turn i e v σ' F' H' F2 H2 he (s.ff.trans l) st' hI s2 rv _ fun σ3 F3 H3 l3 st3 i3 => ⟨hlt, F3, (l.trans s2.ff).trans l3, st3, i3⟩
  · have ei : i = es.length := by omega
    subst ei
    exact .inl ⟨(w.mono l).stop H' st'.sub, done σ' F' H' (s.ff.trans l) st' hI⟩
/-- over a list of typed data -/
theorem s_forX {tb : TS} {xs : List α} (h : EvI T wi σ F (xs.map d)) (st : Step T F0 F H0 H) (I : Nat → St → Hp → Hp → Prop)
    (h0 : ∀ F' H', Step T F F' H H' → I 0 σ F' H')
    (turn : ∀ i x v σ1 F1 H1 F2 H2, xs[i]? = some x → Same F F1 → Step T F0 F1 H0 H1 → I i σ1 F1 H1 → Step T F1 F2 H1 H2 → Rv F2 v (d x) →
      ∀ N : St → Hp → Prop, (∀ σ' F' H', Same F2 F' → Step T F0 F' H0 H' → I (i + 1) σ' F' H' → N σ' H') → g v σ1 H2 fun σ2 H3 => tb { D with nx := N, ct := N, bk := D.nx } σ2 H3)
    (done : ∀ σ' F' H', Same F F' → Step T F0 F' H0 H' → I xs.length σ' F' H' → D.nx σ' H') : tFor wi g tb D σ H :=
  s_for h st I h0 (fun i e v σ1 F1 H1 F2 H2 he l s1 hI s2 rv N hN => by
    rw [List.getElem?_map] at he
    cases hx : xs[i]? with
    | none =>
      rw [hx] at he
      cases he
    | some x =>
      rw [hx] at he
      cases he
      exact turn i x v σ1 F1 H1 F2 H2 hx l s1 hI s2 rv N hN) fun σ' F' H' l s' hI => done σ' F' H' l s' (by rw [List.length_map] at hI; exact hI)
theorem s_while {c : TT} {tb : TS} (st : Step T F0 F H0 H) (I : St → Hp → Hp → Prop) (μ : St → Hp → Hp → Nat) (b : St → Hp → Hp → Bool) (h0 : I σ F H)
    (test : ∀ σ1 F1 H1, Same F F1 → Step T F0 F1 H0 H1 → I σ1 F1 H1 → ∀ Q : Bool → Hp → Prop, (∀ H2, Step T F1 F1 H1 H2 → I σ1 F1 H2 → μ σ1 F1 H2 = μ σ1 F1 H1 → Q (b σ1 F1 H1) H2) → c σ1 H1 Q)
    (turn : ∀ σ1 F1 H1 H2, Same F F1 → Step T F0 F1 H0 H1 → Step T F0 F1 H0 H2 → I σ1 F1 H1 → I σ1 F1 H2 → b σ1 F1 H1 = true → ∀ N : St → Hp → Prop, (∀ σ' F' H', Same F1 F' → Step T F0 F' H0 H' → I σ' F' H' → μ σ' F' H' < μ σ1 F1 H1 → N σ' H') →
      tb { D with nx := N, ct := N, bk := D.nx } σ1 H2)
    (done : ∀ σ1 F1 H1 H2, Same F F1 → Step T F0 F1 H0 H2 → I σ1 F1 H1 → I σ1 F1 H2 → b σ1 F1 H1 = false → D.nx σ1 H2) : tWhile c tb D σ H := by
  refine ⟨fun m σ' H' => ∃ F', Same F F' ∧ Step T F0 F' H0 H' ∧ I σ' F' H' ∧ μ σ' F' H' = m, ⟨_, F, Same.refl _, st, h0, rfl⟩, ?_⟩
  rintro m σ' H' ⟨F', l, st', hI, rfl⟩
  refine test σ' F' H' l st' hI _ fun H2 s2 hI2 hm => ?_
  cases hb : b σ' F' H' with
  | true => exact ⟨_, fun σ3 H3 z => z, turn σ' F' H' H2 l st' (st'.trans s2) hI hI2 hb _ fun σ3 F3 H3 l3 s3 i3 m3 => ⟨_, m3, F3, l.trans l3, s3, i3, rfl⟩⟩
  | false => exact done σ' F' H' H2 l (st'.trans s2) hI hI2 hb
/-- the same, a ghost g told beside -/
theorem s_whileG {τ : Type} {c : TT} {tb : TS} (g0 : τ) (I : τ → St → Hp → Hp → Prop) (μ : τ → Nat) (b : τ → Bool) (st : Step T F0 F H0 H) (h0 : I g0 σ F H)
    (test : ∀ g σ1 F1 H1, Same F F1 → Step T F0 F1 H0 H1 → I g σ1 F1 H1 → ∀ Q : Bool → Hp → Prop, (∀ H2, Step T F1 F1 H1 H2 → I g σ1 F1 H2 → Q (b g) H2) → c σ1 H1 Q)
    (turn : ∀ g σ1 F1 H1, Same F F1 → Step T F0 F1 H0 H1 → I g σ1 F1 H1 → b g = true → ∀ N : St → Hp → Prop, (∀ g' σ' F' H', Same F1 F' → Step T F0 F' H0 H' → I g' σ' F' H' → μ g' < μ g → N σ' H') → tb { D with nx := N, ct := N, bk := D.nx } σ1 H1)
    (done : ∀ g σ1 F1 H1, Same F F1 → Step T F0 F1 H0 H1 → I g σ1 F1 H1 → b g = false → D.nx σ1 H1) : tWhile c tb D σ H := by
  refine ⟨fun m σ' H' => ∃ g F', Same F F' ∧ Step T F0 F' H0 H' ∧ I g σ' F' H' ∧ μ g = m, ⟨_, g0, F, Same.refl _, st, h0, rfl⟩, ?_⟩
  rintro m σ' H' ⟨g, F', l, st', hI, rfl⟩
  refine test g σ' F' H' l st' hI _ fun H2 s2 hI2 => ?_
  cases hb : b g with
  | true => exact ⟨_, fun σ3 H3 z => z, turn g σ' F' H2 l (st'.trans s2) hI2 hb _ fun g3 σ3 F3 H3 l3 s3 i3 m3 => ⟨_, m3, g3, F3, l.trans l3, s3, i3, rfl⟩⟩
  | false => exact done g σ' F' H2 l (st'.trans s2) hI2 hb
/-! ### own lists, that are written -/
/-- at p a list of the data xs, which nobody else holds -/
def Own (F H : Hp) (p : Addr) (xs : List α) : Prop := F p = none ∧ ∃ us, H p = some (.lst us) ∧ RvL F us (xs.map d)
theorem Own.step {p : Addr} {xs : List α} {F1 H1 : Hp} (o : Own F H p xs) (s : Step T F F1 H H1) : Own F1 H1 p xs := by
  obtain ⟨h1, us, h2, h3⟩ := o
  exact ⟨s.new p h1 (wr_lst h2), us, s.ext.keep p _ h2 nt_lst, h3.mono s.ff⟩
/-- what else is written leaves it -/
theorem Own.other {p q : Addr} {xs : List α} {o : HO} (w : Own F H p xs) (n : p ≠ q) : Own F (upd H q o) p xs := by
  obtain ⟨h1, us, h2, h3⟩ := w
  exact ⟨h1, us, by rw [upd_ne n]; exact h2, h3⟩
theorem Own.at_ {p : Addr} {xs : List α} (o : Own F H p xs) : ∃ us, H p = some (.lst us) := let ⟨_, us, h, _⟩ := o; ⟨us, h⟩
/-- it is handed out, and written no more -/
theorem Own.out {p : Addr} {xs : List α} (o : Own F H p xs) (st : Step T F0 F H0 H) (n : H0 p = none) : ∃ F', Same F F' ∧ Step T F0 F' H0 H ∧ Rv F' (.ref p) (d xs) := by
  obtain ⟨h1, us, h2, h3⟩ := o
  have ff : Same F (upd F p (.lst us)) := fun a o e => by
    rw [upd_ne (ne_of_none e h1)]
    exact e
  refine ⟨upd F p (.lst us), ff, ⟨st.ff.trans ff, fun a o e => ?_, st.ext, fun a e1 e2 => ?_, st.tab⟩, .lst upd_same (h3.mono ff)⟩
  · by_cases z : a = p
    · subst z
      rw [upd_same] at e
      cases e
      exact ⟨h2, nt_lst⟩
    · rw [upd_ne z] at e
      exact st.sub a o e
  · have z : a ≠ p := fun z => e2.some (by rw [z]; exact n)
    rw [upd_ne z]
    exact st.new a e1 e2
/-- a frame in which it may be read -/
theorem Own.seen {p : Addr} {xs : List α} (o : Own F H p xs) (s : Sub F H) : ∃ F', Same F F' ∧ Sub F' H ∧ Rv F' (.ref p) (d xs) := by
  obtain ⟨h1, us, h2, h3⟩ := o
  have ff : Same F (upd F p (.lst us)) := fun a o e => by
    rw [upd_ne (ne_of_none e h1)]
    exact e
  refine ⟨upd F p (.lst us), ff, fun a o e => ?_, .lst upd_same (h3.mono ff)⟩
  by_cases z : a = p
  · subst z
    rw [upd_same] at e
    cases e
    exact ⟨h2, nt_lst⟩
  · rw [upd_ne z] at e
    exact s a o e
theorem Step.narrow {F1 F2 H1 : Hp} (s : Step T F1 F2 H H1) (l : Same F F1) : Step T F F H H1 := ⟨Same.refl _, s.sub.less (l.trans s.ff), s.ext, fun _ h _ => h, s.tab⟩
/-- a test that reads it -/
theorem Own.test {p : Addr} {xs : List α} {b : Bool} (o : Own F H p xs) (s : Sub F H) (t : LamX.Tabs T H) (h : ∀ G, Same F G → Rv G (.ref p) (d xs) → EvT T tt σ G b) : ∀ Q : Bool → Hp → Prop, (∀ H', Step T F F H H' → Q b H') → tt σ H Q := fun Q q => by
  obtain ⟨G, l, s', r⟩ := o.seen s
  exact h G l r H s' t Q fun H' st => q H' (st.narrow l)
theorem s_ifO {p : Addr} {xs : List α} {b : Bool} (o : Own F H p xs) (h : ∀ G, Same F G → Rv G (.ref p) (d xs) → EvT T tt σ G b) (st : Step T F0 F H0 H)
    (h1 : b = true → ∀ H', Step T F F H H' → Step T F0 F H0 H' → Own F H' p xs → tu D σ H') (h2 : b = false → ∀ H', Step T F F H H' → Step T F0 F H0 H' → Own F H' p xs → tw D σ H') : tIfS tt tu tw D σ H :=
  o.test st.sub st.tab h _ fun H' s => by
    cases b with
    | true => exact h1 rfl H' s (st.trans s) (o.step s)
    | false => exact h2 rfl H' s (st.trans s) (o.step s)
theorem Step.mut {p : Addr} {o u : HO} (st : Step T F0 F H0 H) (f : F p = none) (n : H0 p = none) (h : H p = some o) (n1 : notTbl o) (n2 : ∀ φ, o ≠ .ext φ) : Step T F0 F H0 (upd H p u) :=
  ⟨st.ff, st.sub.mut f, st.ext.mut n, st.new, tabs_mut st.tab h n1 n2⟩
/-- x = [..] that will be written -/
theorem s_own {i : Nat} {xs : List α} (h : Ev T te σ F xs) (st : Step T F0 F H0 H) (mk : ∀ (Q : VK), (∀ p us F' H', Step T F F' H H' → H' p = none → RvL F' us (xs.map d) → Q (.ref p) (upd H' p (.lst us))) → te σ H Q)
    (k : ∀ p F' H', Step T F F' H H' → Step T F0 F' H0 H' → H0 p = none → Own F' H' p xs → D.nx (σ.set i (some (.ref p))) H') : tAsg te (gName i) D σ H :=
  mk _ fun p us F' H' s hp r => by
    have z := s.sub.free hp
    have n0 : H0 p = none := (st.trans s).ext.live p hp
    have s2 : Step T F F' H (upd H' p (.lst us)) := ⟨s.ff, s.sub.mut z, s.ext.trans (Ext.new hp), s.new, tabs_new s.tab hp⟩
    exact k p F' _ s2 (st.trans s2) n0 ⟨z, us, upd_same, r⟩
/-- a written list's display -/
theorem mk_lst {xs : List α} {tr : TA} (h : EvXs T σ F tr xs) (hl : xs.length ≤ 1000) (s : Sub F H) (t : LamX.Tabs T H) : ∀ (Q : VK), (∀ p us F' H', Step T F F' H H' → H' p = none → RvL F' us (xs.map d) → Q (.ref p) (upd H' p (.lst us))) → tLst tr σ H Q := fun Q q =>
  h.a H s t _ fun vs F' H' st r => ⟨Nat.le_trans (by have := r.length; rw [List.length_map] at this; omega) (by decide : 1000 ≤ sizeLine), fun p hp => q p vs F' H' st hp r⟩
theorem s_ownL {i : Nat} {xs : List α} {tr : TA} (h : EvXs T σ F tr xs) (hl : xs.length ≤ 1000) (st : Step T F0 F H0 H)
    (k : ∀ p F' H', Step T F F' H H' → Step T F0 F' H0 H' → H0 p = none → Own F' H' p xs → D.nx (σ.set i (some (.ref p))) H') : tAsg (tLst tr) (gName i) D σ H :=
  s_own (ev_list h hl) st (mk_lst h hl st.sub st.tab) k
/-- list(xs) that will be written -/
theorem s_ownC {i : Nat} {xs : List α} (h : Ev T te σ F xs) (st : Step T F0 F H0 H)
    (k : ∀ p F' H', Step T F F' H H' → Step T F0 F' H0 H' → H0 p = none → Own F' H' p xs → D.nx (σ.set i (some (.ref p))) H') :
    tAsg (tCB (rListU K) (tCons te tNil)) (gName i) D σ H :=
  s_own (ev_listOf h) st (fun Q q => ea_cons h ea_nil H st.sub st.tab _ fun vs F' H' s r => by
    obtain ⟨v, rfl, r1⟩ := rvl1 r
    obtain ⟨p, us, rfl, a, b⟩ := rv_list r1
    exact .inl ⟨p, us, rfl, .inl (SqL.of (s.sub _ _ a).1), fun l hl => q l us F' H' s hl b⟩) k
/-- xs.append(e) -/
theorem s_app {i : Nat} {p : Addr} {xs : List α} {x : α} (hi : σ[i]? = some (some (.ref p))) (o : Own F H p xs) (h : Ev T te σ F x) (st : Step T F0 F H0 H) (n : H0 p = none) (hz : xs.length < 100000)
    (k : ∀ F' H', Same F F' → Step T F0 F' H0 H' → Own F' H' p (xs ++ [x]) → (∀ b o, b ≠ p → notTbl o → H b = some o → H' b = some o) → (∀ b, b ≠ p → F b = none → Wr H b → F' b = none) → D.nx σ H') :
    tDrop (tBM K "list" rAppend (tVar i) (tCons te tNil)) D σ H := by
  obtain ⟨h1, us, h2, h3⟩ := id o
  refine ⟨_, hi, Or.inl ⟨rfl, us, SqL.of h2⟩, ea_cons h ea_nil H st.sub st.tab _ fun vs F' H' s r => ?_⟩
  obtain ⟨v, rfl, r1⟩ := rvl1 r
  obtain ⟨g1, us', g2, g3⟩ := o.step s
  have e := s.ext.keep p _ h2 nt_lst
  rw [e] at g2
  cases g2
  have l := h3.length
  rw [List.length_map] at l
  refine ⟨p, us, v, rfl, rfl, e, Nat.lt_of_lt_of_le (by omega : us.length < 100000) (by decide), ?_⟩
  refine k F' _ s.ff ((st.trans s).mut g1 n e nt_lst fun φ z => nomatch z) ⟨g1, us ++ [v], upd_same, ?_⟩ (fun b o hb nt e => by rw [upd_ne hb]; exact s.ext.keep b o e nt) (fun b hb h5 h6 => s.new b h5 h6)
  rw [List.map_append]
  exact rvl_snoc g3 r1
/-! ### calls of defs -/
/-- a def that only looks and makes: R tells its answer by its arguments in a frame -/
def Pu (T : List (Addr × Str)) (R : Hp → List V → PyData → Prop) : Sp := fun vs H Q _ => ∃ (F : Hp) (e : PyData), Sub F H ∧ LamX.Tabs T H ∧ R F vs e ∧ ∀ v F' H', Step T F F' H H' → Rv F' v e → Q v H'
def R1 (f : α → β) (pre : α → Prop) : Hp → List V → PyData → Prop := fun F vs e => ∃ x, RvL F vs [d x] ∧ pre x ∧ e = d (f x)
def R2' (f : α → β → γ) (pre : α → β → Prop) : Hp → List V → PyData → Prop := fun F vs e => ∃ x y, RvL F vs [d x, d y] ∧ pre x y ∧ e = d (f x y)
def R3 (f : α → β → γ → δ) (pre : α → β → γ → Prop) : Hp → List V → PyData → Prop := fun F vs e => ∃ x y z, RvL F vs [d x, d y, d z] ∧ pre x y z ∧ e = d (f x y z)
theorem ev_call1 {f : α → β} {pre : α → Prop} {E : XK} {x : α} (h : Ev T te σ F x) (hp : pre x) : Ev T (tCall (Pu T (R1 f pre)) [] E (tCons te tNil)) σ F (f x) := fun H s t Q q =>
  ea_cons h ea_nil H s t _ fun vs F1 H1 st r => ⟨F1, d (f x), st.sub, st.tab, ⟨x, by rw [List.append_nil]; exact r, hp, rfl⟩, fun v F' H' st2 r2 => q v F' H' (st.trans st2) r2⟩
theorem ev_call2 {f : α → β → γ} {pre : α → β → Prop} {E : XK} {x : α} {y : β} (h : Ev T ta σ F x) (h' : Ev T tb σ F y) (hp : pre x y) : Ev T (tCall (Pu T (R2' f pre)) [] E (tCons ta (tCons tb tNil))) σ F (f x y) := fun H s t Q q =>
  ea_cons h (ea_cons h' ea_nil) H s t _ fun vs F1 H1 st r => ⟨F1, d (f x y), st.sub, st.tab, ⟨x, y, by rw [List.append_nil]; exact r, hp, rfl⟩, fun v F' H' st2 r2 => q v F' H' (st.trans st2) r2⟩
theorem ev_call3 {f : α → β → γ → δ} {pre : α → β → γ → Prop} {E : XK} {x : α} {y : β} {z : γ} (h : Ev T ta σ F x) (h' : Ev T tb σ F y) (h'' : Ev T tc σ F z) (hp : pre x y z) : Ev T (tCall (Pu T (R3 f pre)) [] E (tCons ta (tCons tb (tCons tc tNil)))) σ F (f x y z) := fun H s t Q q =>
  ea_cons h (ea_cons h' (ea_cons h'' ea_nil)) H s t _ fun vs F1 H1 st r => ⟨F1, d (f x y z), st.sub, st.tab, ⟨x, y, z, by rw [List.append_nil]; exact r, hp, rfl⟩, fun v F' H' st2 r2 => q v F' H' (st.trans st2) r2⟩
/-- the arguments' number -/
theorem RvL.len {F : Hp} {vs : List V} {es : List PyData} (r : RvL F vs es) : vs.length = es.length := r.length
end
end Tf

/-! Calls of defs, classes, methods by one word each; what is walked whatever its kind. -/
namespace Tf
open PySem PySem.Spec PyProof.Rows L2 Dt
/-- a def that is called: its promise, its place, how its arguments bind -/
structure Fd (P : Program) (w : World) (K : PySem.W.Frag) (mg : Str → Option Value) (base : Heap) (CX : CXT) (k : Nat) (x : Str) (f : Addr) (fd : FuncData) (ps : List Str) (sp : Sp) : Prop where
  ok : FnOk P w K mg base CX k f fd ps sp
  at_ : mg x = some (.ref f)
  kp : PySem.W.keepIn K (.ref f) = true
  bi : Binds K fd ps []
/-- a method that is called -/
structure Md (P : Program) (w : World) (K : PySem.W.Frag) (mg : Str → Option Value) (base : Heap) (CX : CXT) (k : Nat) (C : Addr) (m : Str) (f : Addr) (fd : FuncData) (ps : List Str) (sp : Sp) : Prop where
  ok : FnOk P w K mg base CX k f fd ps sp
  cl : Cls K C
  at_ : Meth K C m f
  bi : Binds K fd ps []
/-- a class that is called -/
structure Mc (P : Program) (w : World) (K : PySem.W.Frag) (mg : Str → Option Value) (base : Heap) (CX : CXT) (k : Nat) (x : Str) (C f : Addr) (fd : FuncData) (ps : List Str) (sp : Sp) : Prop where
  ok : FnOk P w K mg base CX k f fd ps sp
  cls : Mk K C f
  at_ : mg x = some (.ref C)
  bi : Binds K fd ps []
section
variable {X : Cx} {CX : CXT} {E : XK} {k : Nat} {x m : Str} {C f : Addr} {fd : FuncData} {ps : List Str} {sp : Sp} {e o : Expr} {es : List Expr} {t : TA} {ta : TE} {p pos apos : Pos}
theorem pe_fd (G : Fd X.prog X.w X.K X.mg X.base CX k x f fd ps sp) (hr : Room k X.A) (hx : Passes CX X E) (ha : PA X (e :: es) t) (hg : Gl X x := by rfl) (hdb : (x == ("__debug__" : Str)) = false := by decide)
    (he : starEach (e :: es) X.env = (false, eval e X.env) :: starEach es X.env := by rfl) (hpl : (backTo pos (starEach es X.env)).any (·.1) = false := by rfl) :
    PE X (.Call (.Name x p) (e :: es) [] pos) (tCall sp [] E t) := pe_call G.ok hr hg G.at_ G.kp G.bi .nil hx ha hdb he hpl
theorem pe_mk (G : Mc X.prog X.w X.K X.mg X.base CX k x C f fd ps sp) (hr : Room (k + 1) X.A) (hx : Passes CX X E) (ha : PA X (e :: es) t) (hg : Gl X x := by rfl) (hdb : (x == ("__debug__" : Str)) = false := by decide)
    (he : starEach (e :: es) X.env = (false, eval e X.env) :: starEach es X.env := by rfl) (hpl : (backTo pos (starEach es X.env)).any (·.1) = false := by rfl) :
    PE X (.Call (.Name x p) (e :: es) [] pos) (tMake C sp [] E t) := pe_make G.cls G.ok hr hg G.at_ G.bi .nil hx ha hdb he hpl
theorem pe_md {pl : Sem Bool} (ho : PE X o ta) (G : Md X.prog X.w X.K X.mg X.base CX k C m f fd ps sp) (hr : Room k X.A) (hx : Passes CX X E) (ha : PA X (e :: es) t)
    (hst : starEach (e :: es) X.env = (false, eval e X.env) :: starEach es X.env := by rfl) (hpl : (backTo pos (starEach es X.env)).any (·.1) = false := by rfl)
    (ht : eval (.Call (.Attribute o m apos) (e :: es) [] pos) X.env = (do
      let v ← eval o X.env
      standAt apos.atName
      let (g, one) ← holding [v] (getMethod v m pl)
      callWith pos g one (backTo pos (starEach (e :: es) X.env)) (backToKw pos (keywordEach [] X.env))) := by rfl) :
    PE X (.Call (.Attribute o m apos) (e :: es) [] pos) (tMeth C m sp [] E ta t) := pe_meth ho G.cl G.at_ G.ok hr G.bi .nil hx ha hst hpl ht
theorem pe_md0 {pl : Sem Bool} (ho : PE X o ta) (G : Md X.prog X.w X.K X.mg X.base CX k C m f fd ps sp) (hr : Room k X.A) (hx : Passes CX X E)
    (ht : eval (.Call (.Attribute o m apos) [] [] pos) X.env = (do
      let v ← eval o X.env
      standAt apos.atName
      let (g, one) ← holding [v] (getMethod v m pl)
      callWith pos g one (backTo pos (starEach [] X.env)) (backToKw pos (keywordEach [] X.env))) := by rfl) :
    PE X (.Call (.Attribute o m apos) [] [] pos) (tMeth C m sp [] E ta tNil) := pe_meth0 ho G.cl G.at_ G.ok hr G.bi .nil hx ht
/-- a list, a text or a tuple is walked -/
def iAny (K : PySem.W.Frag) (te : TE) : TI := fun σ H R => iList K te σ H R ∨ iStr te σ H R ∨ iTup K te σ H R
theorem pi_any {tg : Expr} (h : PE X e ta) : PI X tg e (iAny X.K ta) := PI.or2 (pi_list h) (PI.or2 (pi_str h) (pi_tup h))
/-- a slice of a list or a text -/
def rSlU (K : PySem.W.Frag) : V → Option Int → Option Int → Hp → VK → Prop := fun x lo hi H Q => rSlL K x lo hi H Q ∨ (∃ z, x = .str z ∧ z.length ≤ sizeLine ∧ Q (.str (cutS z lo hi)) H)
theorem pe_dnewU : PE X (.Dict [] [] pos) (tOr2 tDNewK tDNewT) := PE.or2 pe_dnewK pe_dnewT
theorem ucall_list (hc : X.calm = true) : CallR X (.type "list") (rListU X.K) := call_list_of.or (call_list_dT hc)
theorem ucall_tuple : CallR X (.type "tuple") (fun xs H Q => ∃ p ys, xs = [.ref p] ∧ ((SqL X.K H p ys ∧ ∀ l, H l = none → Q (.ref l) (upd H l (.tup ys))) ∨ (SqT X.K H p ys ∧ Q (.ref p) H))) := call_tuple_of
end
/-! ### the written part by its facts -/
/-- what the top has left: fa its facts, fn its defs -/
structure Top (fa : List He.Fa) (fn : List He.DefD) (K : PySem.W.Frag) (mg : Str → Option Value) : Prop where
  fact : ∀ (i : Nat) {f : He.Fa}, fa[i]? = some f → f.ok K = true
  def_ : ∀ (i : Nat) {d : He.DefD}, fn[i]? = some d → ∃ fd, FunD K d.name d.qual d.params d.body d.scope (d.dvs K) (d.kws K) (He.fAd K d.at_) fd
  glo : ∀ (i : Nat) {x : Str}, fa[i]? = some (.glo x) → mg x = some (.ref (He.ga K x))
  free : ∀ (i : Nat) {x : Str}, fa[i]? = some (.free x) → mg x = none
  int : ∀ (i : Nat) {x : Str} {n : Int}, fa[i]? = some (.int x n) → ∃ t, mg x = some (.int n t)
  str : ∀ (i : Nat) {x z : Str}, fa[i]? = some (.str x z) → ∃ t, mg x = some (.str z t)
theorem top_of {fa : List He.Fa} {fn : List He.DefD} {K : PySem.W.Frag} {mg : Str → Option Value} {h : Heap} (X : K.In h) (G : h.Ns mainGlobals mg) (c : He.SaysD fa fn K) : Top fa fn K mg where
  fact := fun i f e => c.fact i e
  def_ := fun i dd e => c.def_ i e
  glo := fun i x e => He.glo_ok X G (c.fact i e)
  free := fun i x e => He.free_ok X G (c.fact i e)
  int := fun i x n e => He.int_ok X G (c.fact i e)
  str := fun i x z e => He.str_ok X G (c.fact i e)
section
variable {P : Program} {w : World} {K : PySem.W.Frag} {mg : Str → Option Value} {base : Heap}
abbrev FnP (K : PySem.W.Frag) (x qual : Str) (st : Stmt) (f : Addr) (fd : FuncData) : Prop := FunD K x qual (defArgs st) (defBody st) (defScope st) [] [] f fd
end
end Tf

/-! Rules of our own: enumerate of a text; sums of tuples. -/
namespace Tf
open PySem PySem.Spec PyProof.Rows L2 Dt
/-- the signs of x, each in a new pair with its place -/
def ItS (x : Str) : It :=
  ⟨fun i _ => i < x.cps.size, fun i H v H' => ∃ T c, v = .ref T ∧ H T = none ∧ x.cps[i]? = some c ∧ H' = upd H T (.tup [.int (i : Nat), .str ⟨#[c]⟩]), fun i _ => x.cps.size ≤ i⟩
theorem turn_enumS {P : Program} {w : World} {K : PySem.W.Frag} {elts : List Expr} {kk : Nat} {tpos : Pos} (e it : Addr) (x : Str) (t : Tok) :
    Turn P w K (.Tuple elts kk tpos) (ItS x) [e, it] e (fun i h => (i ≤ x.cps.size ∧ ∃ old, IsEnum h e it ((i : Nat) : Int) old) ∧ h.IsStrIter it (strIterType x) x t i ∧ e ≠ it) where
  mem := List.mem_cons_self ..
  obj := fun i h st b hb => by
    obtain ⟨⟨_, old, he⟩, ⟨o, ho, _, hd⟩, _⟩ := st
    rcases List.mem_cons.mp hb with z | z
    · subst z
      exact ⟨_, he, fun v q => nomatch q⟩
    · rw [List.mem_singleton.mp z]
      exact ⟨o, ho, fun v q => by rw [hd] at q; cases q⟩
  keep := fun i h h' st k => by
    obtain ⟨⟨z, old, he⟩, ⟨o, ho, r⟩, hne⟩ := st
    exact ⟨⟨z, old, k e (List.mem_cons_self ..) _ he⟩, ⟨o, k it (by simp) o ho, r⟩, hne⟩
  item := by
    intro X hP hw hK hc i pins s σ H E I hf st hg
    subst hP hw hK
    obtain ⟨⟨_, old, he⟩, hit, hne⟩ := st
    have hel : e < s.heap.objs.size := Heap.lt_size he
    have hil : it < s.heap.objs.size := by
      obtain ⟨o, q, _⟩ := hit
      exact Heap.lt_size q
    have hh : X.A.in1.handled = none := I.ok.hd hc
    refine wpAny_pyNext_enum_itemD (n := x.cps.size) (Draws.text hh it x t) he hit hg hne (by simpa using hne) fun u h' tk hP ho hit' hT hsz hk => ?_
    obtain ⟨c, ut, hcx, rfl⟩ := hP
    refine ⟨_, rfl, wpAny_letOwnedTupleGo_enum (s := { s with heap := h', toks := tk + 1 }) ho fun h2 he2 sb => ?_⟩
    have hT2 : h2.get? s.heap.objs.size = some { cls := .type "tuple", data := .seq #[.int i tk, .str ⟨#[c]⟩ ut] } := (sb.2 _ (Nat.ne_of_gt hel)).trans hT
    have two : 2 ≤ sizeLine := by decide
    have new : ObjOk X.prog X.w (upd H s.heap.objs.size (.tup [.int (i : Nat), .str ⟨#[c]⟩])) h2 s.heap.objs.size (.tup [.int (i : Nat), .str ⟨#[c]⟩]) :=
      ⟨two, [.int i tk, .str ⟨#[c]⟩ ut], .cons ⟨_, rfl⟩ (.cons ⟨_, rfl⟩ .nil), _, hT2, rfl, _, rfl⟩
    have kept : ∀ b o, b ∉ [e, it] → s.heap.get? b = some o → h2.get? b = some o := fun b o hb q => by
      have n1 : b ≠ e := fun z => hb (by simp [z])
      have n2 : b ≠ it := fun z => hb (by simp [z])
      exact (sb.2 b n1).trans (hk b o n1 n2 q)
    have J := I.turnedNew (t' := tk + 1) kept hf (Nat.le_refl _) new
    refine ⟨.ref s.heap.objs.size, _, J, rfl, ⟨_, c, rfl, I.hok.fresh (Nat.le_refl _), hcx, rfl⟩, ⟨⟨hg, .str ⟨#[c]⟩ ut, ?_⟩, ?_, hne⟩, fun b hb => ?_⟩
    · have e1 : ((i + 1 : Nat) : Int) = (i : Int) + 1 := by omega
      rw [e1]
      exact he2
    · obtain ⟨o, q, r⟩ := hit'
      exact ⟨o, (sb.2 it (Ne.symm hne)).trans q, r⟩
    · have lt : b < s.heap.objs.size := by
        rcases List.mem_cons.mp hb with z | z
        · rw [z]; exact hel
        · rw [List.mem_singleton.mp z]; exact hil
      rw [upd_ne (Nat.ne_of_lt lt)]
      exact (hf b hb).1
  done := by
    intro X hP hw hK hc i pins s σ H E I hf st hg
    subst hP hw hK
    obtain ⟨⟨hle, old, he⟩, hit, hne⟩ := st
    have hg' : x.cps.size ≤ i := hg
    have ei : i = x.cps.size := Nat.le_antisymm hle hg'
    subst ei
    have hh : X.A.in1.handled = none := I.ok.hd hc
    obtain ⟨f0, f1, f2, f3, f4, f5⟩ := hf it (by simp)
    refine wpAny_pyNext_enum_endD (n := x.cps.size) (Draws.text hh it x t) he hit fun h' eb => ⟨rfl, I.turned (t' := s.toks) (fun b o hb q => eb b o hb q) f0 f1 f3 f4 f5⟩
  self := fun A i s Q E st h => by
    obtain ⟨⟨_, old, he⟩, _⟩ := st
    exact wpAny_pyIter_enum he h
def iEnumS (ta : TA) : TI := fun σ H R => ta σ H fun vs H1 => ∃ x, vs = [.str x] ∧ R (ItS x) H1
theorem pi_enumS {X : Cx} {e : Expr} {ta : TA} {p pos tpos : Pos} {elts : List Expr} {kk : Nat} (hg : Gl X "enumerate") (hm : X.mg "enumerate" = none) (ha : PA X [e] ta) (hs : starEach [e] X.env = [(false, eval e X.env)] := by rfl) :
    PI X (.Tuple elts kk tpos) (.Call (.Name "enumerate" p) [e] [] pos) (iEnumS ta) := by
  refine ⟨fun pins s σ H R I h => ?_⟩
  refine Call_ (ld_blt I hg hm boot_enumerate (PyProof.Rows.callWith_type1 (thn (ha.run pos pins s σ H _ I h) fun us s1 hq => ?_) hs rfl))
  obtain ⟨vs, H1, I1, r1, x, rfl, q⟩ := hq
  obtain ⟨u, rfl, t, rfl⟩ := vals1 r1
  refine call_enumerate_str fun h' he hit hsz hk => wpAny_pyIter_enum he ?_
  have I2 : Inv X pins σ H1 { s1 with heap := h' } := I1.kept (t' := s1.toks) hk
  refine ⟨s1.heap.objs.size + 1, [s1.heap.objs.size + 1, s1.heap.objs.size], _, _, H1, rfl, I2, turn_enumS _ _ x t, ⟨⟨Nat.zero_le _, .none, he⟩, hit, Nat.succ_ne_self _⟩, fun b hb => ?_, q⟩
  have lo : s1.heap.objs.size ≤ b := by
    rcases List.mem_cons.mp hb with z | z
    · rw [z]
      exact Nat.le_succ _
    · rw [List.mem_singleton.mp z]
      exact Nat.le_refl _
  exact I1.fpOk lo (I1.hok.fresh lo)
/-- enumerate of a list or of a text -/
def iEnumU (K : PySem.W.Frag) (ta : TA) : TI := fun σ H R => iEnum K ta σ H R ∨ iEnumS ta σ H R
theorem pi_enumU {X : Cx} {e : Expr} {ta : TA} {p pos tpos : Pos} {elts : List Expr} {kk : Nat} (hg : Gl X "enumerate") (hm : X.mg "enumerate" = none) (ha : PA X [e] ta) (hs : starEach [e] X.env = [(false, eval e X.env)] := by rfl) :
    PI X (.Tuple elts kk tpos) (.Call (.Name "enumerate" p) [e] [] pos) (iEnumU X.K ta) := PI.or2 (pi_enum hg hm ha hs) (pi_enumS hg hm ha hs)
end Tf

/-! Comprehensions once for all: one clause's loop with any inner work; dicts whose keys are tuples, by one clause or two. -/
namespace Tf
open PySem PySem.Spec PyProof.Rows L2 Dt
/-- one turn of a clause; Inner: what is done with what it brings -/
def turnForm (ipos : Pos) (tg : Expr) (ifs : List Expr) (Inner : Sem Unit) (e : Expr) (depth : Nat) (it acc : Value) (env : Env) : Sem Fin := do
  standAt ipos
  match ← pyNext it with
  | none => pure (.done .next)
  | some v =>
    letOwnedTupleGo tg it v
    assign tg env v
    let mut ok := true
    for c in ifs do
      if ok then ok ← isTrue c env (eval c env)
    if ok then
      Inner
    again (.compLoop e depth it acc env)
/-- d[k] = v, the work of a dict's comprehension -/
def putIn (kx vx : Expr) (D : Addr) (env : Env) : Sem Unit := do
  let kv ← eval kx env
  let vv ← holding [kv] (eval vx env)
  standAt { kx.pos with endLine := vx.pos.endLine, endCol := vx.pos.endCol }
  holding [kv, vv] (dictSet D kv vv)
/-- the next clause's own loop -/
def goIn (e : Expr) (i1 : Expr) (acc : Value) (env : Env) : Sem Unit := do
  let x ← eval i1 env
  standAt i1.pos
  let x ← foldedSetIterable i1 env x
  let _ ← runOwn (.compStart e 1 (← holding [x] (pyIter x)) acc env) env
theorem turn_d1 {kx vx tg iter : Expr} {ifs : List Expr} {scope : Scope} {pos : Pos} {it : Value} {D : Addr} {env : Env} :
    compTurn (.DictComp kx vx [⟨tg, iter, ifs, 0⟩] scope pos) 0 it (.ref D) env = turnForm iter.pos tg ifs (putIn kx vx D env) (.DictComp kx vx [⟨tg, iter, ifs, 0⟩] scope pos) 0 it (.ref D) env := by rfl
theorem turn_d2a {kx vx t0 i0 t1 i1 : Expr} {ifs0 ifs1 : List Expr} {scope : Scope} {pos : Pos} {it : Value} {D : Addr} {env : Env} :
    compTurn (.DictComp kx vx [⟨t0, i0, ifs0, 0⟩, ⟨t1, i1, ifs1, 0⟩] scope pos) 0 it (.ref D) env = turnForm i0.pos t0 ifs0 (goIn (.DictComp kx vx [⟨t0, i0, ifs0, 0⟩, ⟨t1, i1, ifs1, 0⟩] scope pos) i1 (.ref D) env) (.DictComp kx vx [⟨t0, i0, ifs0, 0⟩, ⟨t1, i1, ifs1, 0⟩] scope pos) 0 it (.ref D) env := by
  unfold turnForm goIn
  simp only [bind_assoc]
  rfl
theorem turn_d2b {kx vx t0 i0 t1 i1 : Expr} {ifs0 ifs1 : List Expr} {scope : Scope} {pos : Pos} {it : Value} {D : Addr} {env : Env} :
    compTurn (.DictComp kx vx [⟨t0, i0, ifs0, 0⟩, ⟨t1, i1, ifs1, 0⟩] scope pos) 1 it (.ref D) env = turnForm i1.pos t1 ifs1 (putIn kx vx D env) (.DictComp kx vx [⟨t0, i0, ifs0, 0⟩, ⟨t1, i1, ifs1, 0⟩] scope pos) 1 it (.ref D) env := by rfl
section
variable {prog : Program} {w : World} {A : Around} {R : Result → Shared → Prop} {s : Shared} {e tg : Expr} {ifs : List Expr} {depth : Nat} {it acc : Value} {env : Env} {Inner : Sem Unit} {ipos : Pos}
/-- what is asked of an exception within a block -/
abbrev Nt (prog : Program) (w : World) (A : Around) (env : Env) (R : Result → Shared → Prop) : Value → Shared → Prop := notedBy (model prog w) A env fun x s' => R (.error x) s'
theorem loop_any (hA : A.under (.compLoop e depth it acc env) = A) (hd : (model prog w).den (.compLoop e depth it acc env) = (compTurn e depth it acc env).onRaise fun x => do noteFrame x env; theTreesLotGoes x) (ht : compTurn e depth it acc env = turnForm ipos tg ifs Inner e depth it acc env) (I : Nat → Shared → Prop)
    (turn : ∀ n s, I n s → wpAny (model prog w) A (pyNext it) (fun r s1 => match r with
      | none => R (.ok .next) s1
      | some v => wpAny (model prog w) A (letOwnedTupleGo tg it v) (fun _ s2 => wpAny (model prog w) A (assign tg env v) (fun _ s3 =>
          wpAny (model prog w) A (forIn ifs true fun c r => if r = true then do let ok ← isTrue c env (eval c env); pure (ForInStep.yield ok) else pure (ForInStep.yield r)) (fun ok s4 =>
            if ok = true then wpAny (model prog w) A Inner (fun _ s5 => ∃ m, m < n ∧ I m s5) (Nt prog w A env R) s4 else ∃ m, m < n ∧ I m s4) (Nt prog w A env R) s3) (Nt prog w A env R) s2) (Nt prog w A env R) s1) (Nt prog w A env R) s)
    (n : Nat) (h : I n s) : codeAny (model prog w) A (.compLoop e depth it acc env) R s := by
  refine codeAny_loop rfl I (fun n s hI => ?_) n h
  rw [hA, hd]
  refine wpAny_noted ?_
  rw [ht]
  unfold turnForm
  refine wpAny_bind (wpAny_standAt (wpAny_bind (wpAny_mono (turn n s hI) (fun r s1 h1 => ?_) fun _ _ q => q)))
  cases r with
  | none => exact wpAny_pure h1
  | some v =>
    refine wpAny_bind (wpAny_mono h1 (fun _ s2 h2 => wpAny_bind (wpAny_mono h2 (fun _ s3 h3 => wpAny_bind (wpAny_mono h3 (fun ok s4 h4 => ?_) fun _ _ q => q)) fun _ _ q => q)) fun _ _ q => q)
    cases ok with
    | false => exact wpAny_pure ⟨rfl, h4⟩
    | true => exact wpAny_bind (wpAny_mono h4 (fun _ s5 h5 => wpAny_pure ⟨rfl, h5⟩) fun _ _ q => q)
/-- the inner loop, run on its own -/
theorem in_any {i1 : Expr} {Q : Unit → Shared → Prop} {E : Value → Shared → Prop} (hs : ∀ x, foldedSetIterable i1 env x = pure x)
    (h : wpAny (model prog w) A (eval i1 env) (fun x s1 => wpAny (model prog w) A (pyIter x) (fun itv s2 => codeAny (model prog w) A (.compStart e 1 itv acc env) (fun r s3 => match r with
      | .ok _ => Q () s3
      | .error _ => False) s2) E s1) E s) : wpAny (model prog w) A (goIn e i1 acc env) Q E s := by
  unfold goIn
  refine wpAny_bind (wpAny_mono h (fun x s1 h1 => ?_) fun _ _ q => q)
  refine wpAny_bind (wpAny_standAt (wpAny_bind (wpAny_of_eq (hs x) (wpAny_bind (wpAny_holding (wpAny_mono h1 (fun itv s2 h2 => ?_) fun _ _ q => q))))))
  refine wpAny_bind (wpAny_runOwn ?_)
  rw [Around.mark_none]
  refine codeAny_mono h2 fun r s3 h3 => ?_
  cases r with
  | ok f =>
    first
      | exact wpAny_pure h3
      | exact h3
  | error x => exact h3.elim
/-- a clause's start, when its iterator may be taken again -/
theorem start_any {g : Comprehension} (hA : A.under (.compStart e depth it acc env) = A) (hd : (model prog w).den (.compStart e depth it acc env) = (compStart e depth it acc env).onRaise fun x => do noteFrame x env; standAt theWindowsPlace) (hq : (Code.compLoop e depth it acc env).quiet = true) (hq2 : ∀ it', (Code.compLoop e depth it' acc env).quiet = true) (hg : (clausesOf e)[depth]? = some g) (ha : g.is_async = 0) (h0 : codeAny (model prog w) A (.compLoop e depth it acc env) R s)
    (h : wpAny (model prog w) A (pyIter it) (fun it' s' => codeAny (model prog w) A (.compLoop e depth it' acc env) R s') (Nt prog w A env R) s) : codeAny (model prog w) A (.compStart e depth it acc env) R s := by
  refine codeAny_of_tree ?_
  rw [hA, hd]
  refine wpAny_notedAt ?_
  unfold compStart
  rw [hg]
  show wpAny _ _ (if ((some g).elim false fun z => z.is_async != 0) = true then _ else _) _ _ s
  have na : ((some g).elim false fun z : Comprehension => z.is_async != 0) = false := by simp [ha]
  rw [na, if_neg Bool.false_ne_true]
  refine wpAny_bind (wpAny_askSetting (wpAny_ite ?_))
  split
  · first
      | exact wpAny_bind (wpAny_pure (wpAny_pure (And.intro hq h0)))
      | exact wpAny_pure (And.intro hq h0)
  · refine wpAny_bind (wpAny_rule ?_)
    show wpAny _ _ (standAt g.iter.pos >>= _) _ _ s
    exact wpAny_bind (wpAny_standAt (wpAny_bind (wpAny_mono h (fun it' s' q => wpAny_pure (And.intro (hq2 it') q)) fun _ _ q => q)))
end
/-- d[k] = v within a dict's comprehension -/
theorem dictSet_put {X : Cx} {pins : List (Addr × Obj)} {σ : St} {H H' : Hp} {s : Shared} {E : Value → Shared → Prop} {D : Addr} {y v : V} {u r : Value} {Q : Unit → Shared → Prop} (hu : X.A.units + 1 < cLine) (I : Inv X pins σ H s) (g : DPut H D y v H')
    (ry : RelV y u) (rv : RelV v r) (h : ∀ s', Inv X pins σ H' s' → Q () s') : wpAny (model X.prog X.w) X.A (dictSet D u r) Q E s := by
  rcases g with ⟨kvs, k, e, rfl, l, rfl⟩ | ⟨kvs, k, b, e, rfl, eb, l, rfl⟩
  · exact d_dictSet I e l ry rv h
  · cases (show u = Value.ref b from ry)
    obtain ⟨z, hd, xs, rel, dd⟩ := dt_of I.hok e
    have hz : xs.length ≤ sizeLine := by
      rw [← Paired.length rel]
      exact z
    have hl : (putK kvs k v).length ≤ sizeLine := by
      have := length_putK kvs k v
      omega
    refine wpAny_dictSet_heap (hsz := hz) (show X.A.units < cLine by omega) (key_of I.hok eb) dd fun h' dd' hs => h _ ?_
    obtain ⟨q, es, ep, hq, h2, h3, h4, _, h5⟩ := dd'
    have mu : Mut (H D) := by
      rw [e]
      exact True.intro
    refine d_write I mu hs ⟨q, hq⟩ ⟨hl, hd, _, (rel.put k eb rv).keeps fun c ys ec => ?_, q, es, ep, hq, h2, h3, h4, h5⟩
    rw [upd_ne (ne_of ec e (fun z => nomatch z))]
    exact ec
/-! ### a clause's loop in a block -/
/-- a walk in the context X, calm or not -/
structure TurnX (X : Cx) (tg : Expr) (J : It) (fp : List Addr) (it : Addr) (tn : Nat → Heap → Prop) : Prop where
  mem : it ∈ fp
  obj : ∀ i h, tn i h → ∀ b ∈ fp, ∃ o, h.get? b = some o ∧ ∀ v, o.data ≠ .cell v
  keep : ∀ i h h', tn i h → (∀ b ∈ fp, ∀ o, h.get? b = some o → h'.get? b = some o) → tn i h'
  item : ∀ (i : Nat) (pins : List (Addr × Obj)) (s : Shared) (σ : St) (H : Hp), Inv X pins σ H s → (∀ b ∈ fp, FpOk X pins H b) → tn i s.heap → J.go i H →
    wpAny (model X.prog X.w) X.A (pyNext (.ref it)) (fun r s1 => ∃ u, r = some u ∧
      wpAny (model X.prog X.w) X.A (letOwnedTupleGo tg (.ref it) u) (fun _ s2 => ∃ x H', Inv X pins σ H' s2 ∧ RelV x u ∧ J.yld i H x H' ∧ tn (i + 1) s2.heap ∧ ∀ b ∈ fp, H' b = none) (fun _ _ => False) s1) (fun _ _ => False) s
  done : ∀ (i : Nat) (pins : List (Addr × Obj)) (s : Shared) (σ : St) (H : Hp), Inv X pins σ H s → (∀ b ∈ fp, FpOk X pins H b) → tn i s.heap → J.stop i H →
    wpAny (model X.prog X.w) X.A (pyNext (.ref it)) (fun r s1 => r = none ∧ Inv X pins σ H s1) (fun _ _ => False) s
theorem turnX_of {X : Cx} {P : Program} {w : World} {K : PySem.W.Frag} {tg : Expr} {J : It} {fp : List Addr} {it : Addr} {tn : Nat → Heap → Prop} (t : Turn P w K tg J fp it tn) (h1 : X.prog = P) (h2 : X.w = w) (h3 : X.K = K) (hc : X.calm = true) : TurnX X tg J fp it tn := by
  subst h1 h2 h3
  exact ⟨t.mem, t.obj, t.keep, fun i pins s σ H I hf st hg => t.item X rfl rfl rfl hc i pins s σ H _ I hf st hg, fun i pins s σ H I hf st hg => t.done X rfl rfl rfl hc i pins s σ H _ I hf st hg⟩
theorem turnX_hot {X : Cx} {P : Program} {w : World} {K : PySem.W.Frag} {tg : Expr} {J : It} {fp : List Addr} {it : Addr} {tn : Nat → Heap → Prop} (t : L2H.TurnH P w K tg J fp it tn) (h1 : X.prog = P) (h2 : X.w = w) (h3 : X.K = K) (hc : L2H.HotC X) : TurnX X tg J fp it tn := by
  subst h1 h2 h3
  exact ⟨t.mem, t.obj, t.keep, fun i pins s σ H I hf st hg => t.item X rfl rfl rfl hc i pins s σ H _ I hf st hg, fun i pins s σ H I hf st hg => t.done X rfl rfl rfl hc i pins s σ H _ I hf st hg⟩
theorem noE {α : Type} {t : Sem α} {Q Q' : α → Shared → Prop} {M : Model} {A : Around} {E : Value → Shared → Prop} {s : Shared} (h : wpAny M A t Q (fun _ _ => False) s) (hQ : ∀ a s, Q a s → Q' a s) : wpAny M A t Q' E s := wpAny_mono h hQ fun _ _ z => z.elim
/-- B: what a turn's inner work is to reach, by the next turn's word -/
theorem blk_loop {X : Cx} {ps : List (Addr × Obj)} {σ0 : St} {vs : List Nat} {e tg : Expr} {ifs : List Expr} {depth : Nat} {acc : Value} {Inner : Sem Unit} {ipos : Pos} {J : It} {fp : List Addr} {it : Addr} {tn : Nat → Heap → Prop} {g : TG} {tt : TT} {R : Result → Shared → Prop}
    (hA : X.A.under (.compLoop e depth (.ref it) acc X.env) = X.A) (hd : (model X.prog X.w).den (.compLoop e depth (.ref it) acc X.env) = (compTurn e depth (.ref it) acc X.env).onRaise fun x => do noteFrame x X.env; theTreesLotGoes x)
    (ht : compTurn e depth (.ref it) acc X.env = turnForm ipos tg ifs Inner e depth (.ref it) acc X.env) (t : TurnX X tg J fp it tn) (hx : X.xe = fun _ _ => False) (pg : PG X tg g) (pt : PTs X ifs tt)
    (W : Nat → Nat → Hp → Prop) (Stop : Hp → Prop) (B : (Hp → Prop) → St → Hp → Prop)
    (turn : ∀ i m H, W i m H → (J.stop i H ∧ Stop H) ∨ (J.go i H ∧ ∃ Nx : Hp → Prop, (∀ H', Nx H' → ∃ m', m' < m ∧ W (i + 1) m' H') ∧ ∀ x H', J.yld i H x H' → g x (wipe σ0 vs) H' fun σ2 H2 => wipe σ2 vs = wipe σ0 vs ∧ tt σ2 H2 fun b H3 => if b = true then B Nx σ2 H3 else Nx H3))
    (inner : ∀ (Nx : Hp → Prop) (pl : List (Addr × Obj)) (σ2 : St) (H3 : Hp) (s3 : Shared), Inv X (ps ++ pl) σ2 H3 s3 → wipe σ2 vs = wipe σ0 vs → B Nx σ2 H3 →
      wpAny (model X.prog X.w) X.A Inner (fun _ s' => ∃ σ' H', Inv X (ps ++ pl) σ' H' s' ∧ (wipe σ0 vs).length = σ'.length ∧ (∀ (j : Nat) v, (wipe σ0 vs)[j]? = some (some v) → σ'[j]? = some (some v)) ∧ Nx H') (fun _ _ => False) s3)
    (stop : ∀ H s, Inv X ps (wipe σ0 vs) H s → Stop H → R (.ok .next) s)
    (fpok : ∀ H, (∀ b ∈ fp, H b = none) → ∀ b ∈ fp, FpOk X ps H b) {m0 : Nat} {H0 : Hp} {s : Shared} (I0 : Inv X ps (wipe σ0 vs) H0 s) (st0 : tn 0 s.heap) (n0 : ∀ b ∈ fp, H0 b = none) (w0 : W 0 m0 H0) :
    codeAny (model X.prog X.w) X.A (.compLoop e depth (.ref it) acc X.env) R s := by
  refine loop_any hA hd ht (fun n s' => ∃ i H', Inv X ps (wipe σ0 vs) H' s' ∧ tn i s'.heap ∧ (∀ b ∈ fp, H' b = none) ∧ W i n H') ?_ m0 ⟨0, H0, I0, st0, n0, w0⟩
  rintro n s5 ⟨i, H5, I5, st5, n5, w5⟩
  rcases turn i n H5 w5 with ⟨sp, qq⟩ | ⟨go, Nx, hNx, step⟩
  · refine noE (t.done i ps s5 _ H5 I5 (fpok H5 n5) st5 sp) fun r s6 z => ?_
    obtain ⟨rfl, I6⟩ := z
    exact stop H5 s6 I6 qq
  · refine noE (t.item i ps s5 _ H5 I5 (fpok H5 n5) st5 go) fun r s6 z => ?_
    obtain ⟨u, rfl, h6⟩ := z
    refine noE h6 fun _ s7 z => ?_
    obtain ⟨x, H7, I7, r7, y7, st7, n7⟩ := z
    have I7' := I7.pinned (fpok H7 n7) (t.obj _ _ st7)
    have back : ∀ {σ' : St} {H' : Hp} {s' : Shared}, Inv X (ps ++ pinsAt fp s7.heap) σ' H' s' → (wipe σ0 vs).length = σ'.length → (∀ (j : Nat) v, (wipe σ0 vs)[j]? = some (some v) → σ'[j]? = some (some v)) → Nx H' →
        ∃ m, m < n ∧ ∃ i H', Inv X ps (wipe σ0 vs) H' s' ∧ tn i s'.heap ∧ (∀ b ∈ fp, H' b = none) ∧ W i m H' := fun {σ' H' s'} I' hl hk nx => by
      obtain ⟨m', hm, w'⟩ := hNx H' nx
      have pin' : ∀ b ∈ fp, ∀ o, s7.heap.get? b = some o → s'.heap.get? b = some o ∧ H' b = none := fun b hb o eo => by
        have z := I'.pin (b, o) (List.mem_append_right _ (List.mem_append_right _ (mem_pinsAt hb eo)))
        exact ⟨z.1, z.2.1⟩
      refine ⟨m', hm, i + 1, H', I'.unpinned.weak hl hk, t.keep _ _ _ st7 fun b hb o eo => (pin' b hb o eo).1, fun b hb => ?_, w'⟩
      obtain ⟨o, eo, _⟩ := t.obj _ _ st7 b hb
      exact (pin' b hb o eo).2
    have xe0 : ∀ {α : Type} {m : Sem α} {Q Q' : α → Shared → Prop} {E : Value → Shared → Prop} {s : Shared}, wpAny (model X.prog X.w) X.A m Q X.xe s → (∀ a s, Q a s → Q' a s) → wpAny (model X.prog X.w) X.A m Q' E s := fun h hQ => wpAny_mono h hQ fun _ _ z => by
      rw [hx] at z
      exact z.elim
    refine xe0 (pg.run _ s7 _ H7 x u _ I7' r7 (step x H7 y7)) fun _ s8 z => ?_
    obtain ⟨σ8, H8, I8, hw8, q8⟩ := z
    refine xe0 (pt.run _ s8 σ8 H8 _ I8 q8) fun b s9 z => ?_
    obtain ⟨H9, I9, q9⟩ := z
    have hl8 : (wipe σ0 vs).length = σ8.length := by rw [← hw8, wipe_length]
    have hk8 : ∀ (j : Nat) v, (wipe σ0 vs)[j]? = some (some v) → σ8[j]? = some (some v) := fun j v q => by
      rw [← hw8] at q
      exact (wipe_some q).1
    cases b with
    | false => exact back I9 hl8 hk8 q9
    | true =>
      refine noE (inner Nx _ σ8 H9 s9 I9 hw8 q9) fun _ s10 z => ?_
      obtain ⟨σ', H', I', hl, hk, nx⟩ := z
      exact back I' hl hk nx
/-! ### a comprehension's start: the new object at D, the block's context -/
/-- what is known where a block's code begins -/
structure Begun (X : Cx) (pins : List (Addr × Obj)) (σ : St) (vs : List Nat) (scope : Scope) (fp : List Addr) (tn : Nat → Heap → Prop) (H3 : Hp) (s3 s4 : Shared) (C : Addr) (cl : List (Str × Addr)) : Prop where
  inv : Inv (X.blk s3 H3 scope (compEnvC scope cl C X.env) fp) [] (wipe σ vs) H3 s4
  st : tn 0 s4.heap
  free : ∀ b ∈ fp, H3 b = none
  fpok : ∀ H', (∀ b ∈ fp, H' b = none) → ∀ b ∈ fp, FpOk (X.blk s3 H3 scope (compEnvC scope cl C X.env) fp) [] H' b
  leave : ∀ σ' H' s', Inv (X.blk s3 H3 scope (compEnvC scope cl C X.env) fp) [] σ' H' s' → Inv X pins σ H' s' ∧ ∃ m, s'.heap.Ns C m ∧ FpOk X pins H' C
  keep : ∀ b o, s3.heap.get? b = some o → s4.heap.get? b = some o
  big : s3.heap.objs.size = C
theorem begun_of {X : Cx} {pins : List (Addr × Obj)} {σ : St} {H3 : Hp} {s3 : Shared} {scope : Scope} {own : List (Str × Nat)} {fp : List Addr} {tn : Nat → Heap → Prop} (hN : X.N.Nodup) (ok : BlkOk X.N X.env.scope scope own) (I3 : Inv X pins σ H3 s3)
    (keep : ∀ i h h', tn i h → (∀ b ∈ fp, ∀ o, h.get? b = some o → h'.get? b = some o) → tn i h') (st3 : tn 0 s3.heap) (f3 : ∀ b ∈ fp, FpOk X pins H3 b ∧ b < s3.heap.objs.size) :
    Begun X pins σ (own.map (·.2)) scope fp tn H3 s3 { s3 with heap := pushCells (s3.heap.push { cls := .type "dict", data := .dict #[] }) scope.names } s3.heap.objs.size (cellsFrom (s3.heap.objs.size + 1) scope.names (cloFrom X.env.cells scope.names [])) := by
  have kp : ∀ b o, s3.heap.get? b = some o → (pushCells (s3.heap.push { cls := .type "dict", data := .dict #[] }) scope.names).get? b = some o := fun b o q => pushCells_keeps _ _ _ _ (Heap.get?_push_of_some _ q)
  have I4 := block_start I3 ok hN f3
  refine ⟨I4, keep _ _ _ st3 fun b _ o q => kp b o q, fun b hb => (f3 b hb).1.1, fun H' hn b hb => ?_, fun σ' H' s' I' => ?_, kp, rfl⟩
  · refine ⟨hn b hb, (I4.ok.exf b hb).1, I4.ok.exfs b hb, .inl hb, fun x c q => (I4.ok.exf b hb).2 x c q, fun p hp => ?_⟩
    exact absurd (show p ∈ ([] : List (Addr × Obj)) ++ [] from hp) (by simp)
  · have I7 : Inv X pins σ H' s' := I3.call' (ch := fp) I'.os I'.base I'.hok I'.bare fun b hb => ⟨(f3 b hb).1.2.2.2.1, (f3 b hb).1.2.1, (f3 b hb).1.2.2.2.2.1, (f3 b hb).1.2.2.2.2.2⟩
    obtain ⟨m, hn, _⟩ := I'.loc
    have hn : s'.heap.Ns s3.heap.objs.size m := hn
    have hC : H' s3.heap.objs.size = none := I'.free
    exact ⟨I7, m, hn, I3.fpOk (Nat.le_refl _) hC⟩
/-- a dict's comprehension begins; more: its further clauses -/
theorem dict_begin {X : Cx} {pins : List (Addr × Obj)} {s : Shared} {σ : St} {H : Hp} {kx vx tg iter : Expr} {ifs : List Expr} {more : List Comprehension} {scope : Scope} {own : List (Str × Nat)} {pos pos' : Pos} {wi : TI} {use : Option (Value → Sem Unit)} {Qf : Value → Shared → Prop} {Rd : It → Addr → Hp → Prop}
    (hc : X.calm = true) (hN : X.N.Nodup) (I : Inv X pins σ H s) (hi : PI X tg iter wi) (ok : BlkOk X.N X.env.scope scope own) (hs : ∀ x, foldedSetIterable iter X.env x = pure x)
    (h : wi σ H fun J H1 => ∀ D, H1 D = none → Rd J D (upd H1 D (.dT [])))
    (k : ∀ (it D : Addr) (fp : List Addr) (tn : Nat → Heap → Prop) (J : It) (s3 s4 : Shared) (H3 : Hp) (C : Addr) (cl : List (Str × Addr)), Rd J D H3 → TurnX (X.blk s3 H3 scope (compEnvC scope cl C X.env) fp) tg J fp it tn → Turn X.prog X.w X.K tg J fp it tn → Begun X pins σ (own.map (·.2)) scope fp tn H3 s3 s4 C cl →
      codeAny (model X.prog X.w) X.A (.compStart (.DictComp kx vx (⟨tg, iter, ifs, 0⟩ :: more) scope pos) 0 (.ref it) (.ref D) (compEnvC scope cl C X.env)) (compPost (model X.prog X.w) X.A X.xe use Qf (.ref D) C) s4) :
    wpAny (model X.prog X.w) X.A (comprehension (.DictComp kx vx (⟨tg, iter, ifs, 0⟩ :: more) scope pos) scope X.env pos' newDict false (eval iter X.env) use) Qf X.xe s := by
  have hfree : ∀ y ∈ scope.names, y.2 = .free → ∃ c, X.env.cells.lookup y.1 = some c := fun y hy q => by
    rcases ok.free y hy q with z | z
    · exact I.ok.has _ (.inl z)
    · exact I.ok.has _ (.inr z)
  refine wpAny_comprehension_free (use := use) rfl hs (closure_ok hfree) ok.kind (fun y hy q => by rw [ok.uniq y hy, q]) (thn (hi.run pins s σ H _ I h) fun xv s1 hx => thn hx fun itv s2 h2 => ?_)
  obtain ⟨it, fp, tn, J, H2, rfl, I2, t, st2, f2, q⟩ := h2
  refine wpAny_newObj_type (newEnv_comp ?_)
  have hDn : H2 s2.heap.objs.size = none := I2.hok.fresh (Nat.le_refl _)
  have kp : ∀ b o, s2.heap.get? b = some o → (s2.heap.push { cls := .type "dict", data := .dict #[] }).get? b = some o := fun b o z => Heap.get?_push_of_some _ z
  have I3 : Inv X pins σ (upd H2 s2.heap.objs.size (.dT [])) { s2 with heap := s2.heap.push { cls := .type "dict", data := .dict #[] } } := I2.laid (t' := s2.toks) kp (Nat.le_refl _) (dt_empty s2.heap I2.big)
  have sz : ∀ b ∈ fp, b < s2.heap.objs.size := fun b hb => by
    obtain ⟨o, z, _⟩ := t.obj _ _ st2 b hb
    exact Heap.lt_size z
  have f3 : ∀ b ∈ fp, FpOk X pins (upd H2 s2.heap.objs.size (.dT [])) b ∧ b < (s2.heap.push { cls := .type "dict", data := .dict #[] }).objs.size := fun b hb => by
    have hlt := sz b hb
    refine ⟨⟨?_, (f2 b hb).2⟩, by rw [Heap.size_push]; exact Nat.lt_succ_of_lt hlt⟩
    rw [upd_ne (Nat.ne_of_lt hlt)]
    exact (f2 b hb).1
  have st3 : tn 0 (s2.heap.push { cls := .type "dict", data := .dict #[] }) := t.keep _ _ _ st2 fun b _ o z => kp b o z
  exact k it s2.heap.objs.size fp tn J _ _ _ _ _ (q _ hDn) (turnX_of t rfl rfl rfl hc) t (begun_of hN ok I3 t.keep st3 f3)
/-! ### {k: v for ..}, by one clause or two -/
/-- the loop of a clause, as it is read; B: the inner work -/
def lpRead (J : It) (g : TG) (tt : TT) (vs : List Nat) (σ : St) (B : (Hp → Prop) → St → Hp → Prop) (Stop : Hp → Prop) (H0 : Hp) : Prop :=
  ∃ W : Nat → Nat → Hp → Prop, (∃ m, W 0 m H0) ∧ ∀ i m H, W i m H → (J.stop i H ∧ Stop H) ∨ (J.go i H ∧ ∃ Nx : Hp → Prop, (∀ H', Nx H' → ∃ m', m' < m ∧ W (i + 1) m' H') ∧
    ∀ x H', J.yld i H x H' → g x (wipe σ vs) H' fun σ2 H2 => wipe σ2 vs = wipe σ vs ∧ tt σ2 H2 fun b H3 => if b = true then B Nx σ2 H3 else Nx H3)
def bPut (tk tv : TE) (D : Addr) : (Hp → Prop) → St → Hp → Prop := fun Nx σ2 H3 => tk σ2 H3 fun y H4 => tv σ2 H4 fun z H5 => ∃ Hn, DPut H5 D y z Hn ∧ Nx Hn
def bIn (wi1 : TI) (g1 : TG) (tt1 : TT) (vs1 : List Nat) (B : (Hp → Prop) → St → Hp → Prop) : (Hp → Prop) → St → Hp → Prop := fun Nx σ2 H3 => wi1 σ2 H3 fun J1 H4 => lpRead J1 g1 tt1 vs1 σ2 B Nx H4
def tDcT (wi : TI) (g : TG) (tt : TT) (tk tv : TE) (vs : List Nat) : TE := fun σ H Q => wi σ H fun J H1 => ∀ D, H1 D = none → lpRead J g tt vs σ (bPut tk tv D) (fun H' => Q (.ref D) H') (upd H1 D (.dT []))
def tDcT2 (wi : TI) (g : TG) (tt : TT) (wi1 : TI) (g1 : TG) (tt1 : TT) (tk tv : TE) (vs vs1 : List Nat) : TE := fun σ H Q => wi σ H fun J H1 => ∀ D, H1 D = none → lpRead J g tt vs σ (bIn wi1 g1 tt1 vs1 (bPut tk tv D)) (fun H' => Q (.ref D) H') (upd H1 D (.dT []))
section
variable {X : Cx}
/-- kx and vx are evaluated, the pair is stored -/
theorem put_run {ps : List (Addr × Obj)} {kx vx : Expr} {tk tv : TE} {D : Addr} {Nx : Hp → Prop} {σ0 σ2 : St} {vs : List Nat} {H3 : Hp} {s3 : Shared} (hu : X.A.units + 1 < cLine) (hx : X.xe = fun _ _ => False) (pk : PE X kx tk) (pv : PE X vx tv) (I : Inv X ps σ2 H3 s3)
    (hw : wipe σ2 vs = wipe σ0 vs) (b : bPut tk tv D Nx σ2 H3) :
    wpAny (model X.prog X.w) X.A (putIn kx vx D X.env) (fun _ s' => ∃ σ' H', Inv X ps σ' H' s' ∧ (wipe σ0 vs).length = σ'.length ∧ (∀ (j : Nat) v, (wipe σ0 vs)[j]? = some (some v) → σ'[j]? = some (some v)) ∧ Nx H') (fun _ _ => False) s3 := by
  have xe0 : ∀ {α : Type} {m : Sem α} {Q Q' : α → Shared → Prop} {s : Shared}, wpAny (model X.prog X.w) X.A m Q X.xe s → (∀ a s, Q a s → Q' a s) → wpAny (model X.prog X.w) X.A m Q' (fun _ _ => False) s := fun h hQ => wpAny_mono h hQ fun _ _ z => by
    rw [hx] at z
    exact z.elim
  unfold putIn
  refine wpAny_bind (xe0 (pk.run ps s3 σ2 H3 _ I b) fun kv s4 z => ?_)
  obtain ⟨y, H4, I4, ry, q4⟩ := z
  refine wpAny_bind (wpAny_holding (xe0 (pv.run ps s4 σ2 H4 _ I4 q4) fun vv s5 z => ?_))
  obtain ⟨v, H5, I5, rv, Hn, put, nx⟩ := z
  refine wpAny_bind (wpAny_standAt (wpAny_holding (dictSet_put hu I5 put ry rv fun s6 I6 => ?_)))
  refine ⟨σ2, Hn, I6, ?_, fun j v q => ?_, nx⟩
  · rw [← hw, wipe_length]
  · rw [← hw] at q
    exact (wipe_some q).1
theorem dcT_core {pins : List (Addr × Obj)} {s : Shared} {σ : St} {H : Hp} {Q : VK} {pos' : Pos} {use : Option (Value → Sem Unit)} {Qf : Value → Shared → Prop} {kx vx tg iter : Expr} {ifs : List Expr} {scope : Scope} {own : List (Str × Nat)} {pos : Pos} {wi : TI} {g : TG} {tt : TT} {tk tv : TE} (hu : X.A.units + 1 < cLine) (hc : X.calm = true) (hN : X.N.Nodup) (hi : PI X tg iter wi) (ok : BlkOk X.N X.env.scope scope own)
    (hg : ∀ (s : Shared) (H : Hp) (C : Addr) (cl : List (Str × Addr)) (fp : List Addr), PG (X.blk s H scope (compEnvC scope cl C X.env) fp) tg g) (ht : ∀ (s : Shared) (H : Hp) (C : Addr) (cl : List (Str × Addr)) (fp : List Addr), PTs (X.blk s H scope (compEnvC scope cl C X.env) fp) ifs tt)
    (hk : ∀ (s : Shared) (H : Hp) (C : Addr) (cl : List (Str × Addr)) (fp : List Addr), PE (X.blk s H scope (compEnvC scope cl C X.env) fp) kx tk)
    (he : ∀ (s : Shared) (H : Hp) (C : Addr) (cl : List (Str × Addr)) (fp : List Addr), PE (X.blk s H scope (compEnvC scope cl C X.env) fp) vx tv) (hs : ∀ x, foldedSetIterable iter X.env x = pure x)
    (I : Inv X pins σ H s) (h : tDcT wi g tt tk tv (own.map (·.2)) σ H Q) (hRR : ∀ D C s' m H', Inv X pins σ H' s' → Q (.ref D) H' → s'.heap.Ns C m → FpOk X pins H' C → compPost (model X.prog X.w) X.A X.xe use Qf (.ref D) C (.ok .next) s') :
    wpAny (model X.prog X.w) X.A (comprehension (.DictComp kx vx [⟨tg, iter, ifs, 0⟩] scope pos) scope X.env pos' newDict false (eval iter X.env) use) Qf X.xe s := by
  refine dict_begin (Rd := fun J D H3 => lpRead J g tt (own.map (fun p : Str × Nat => p.2)) σ (bPut tk tv D) (fun H' => Q (.ref D) H') H3) hc hN I hi ok hs h fun it D fp tn J s3 s4 H3 C cl rd tx t bg => ?_
  obtain ⟨W, ⟨m0, w0⟩, turn⟩ := rd
  have lp : codeAny (model X.prog X.w) X.A (.compLoop (.DictComp kx vx [⟨tg, iter, ifs, 0⟩] scope pos) 0 (.ref it) (.ref D) (compEnvC scope cl C X.env)) (compPost (model X.prog X.w) X.A X.xe use Qf (.ref D) C) s4 := by
    refine blk_loop (X := X.blk s3 H3 scope (compEnvC scope cl C X.env) fp) (ps := []) (σ0 := σ) (Inner := putIn kx vx D (compEnvC scope cl C X.env)) rfl rfl turn_d1 tx rfl (hg s3 H3 C cl fp) (ht s3 H3 C cl fp) W (fun H' => Q (.ref D) H') (bPut tk tv D) turn ?_ ?_ bg.fpok bg.inv bg.st bg.free w0
    · intro Nx pl σ2 H4 s5 I5 hw b
      exact put_run (X := X.blk s3 H3 scope (compEnvC scope cl C X.env) fp) hu rfl (hk s3 H3 C cl fp) (he s3 H3 C cl fp) I5 hw b
    · intro H' s' I' q
      obtain ⟨I7, m, hn, f⟩ := bg.leave _ _ _ I'
      exact hRR D C s' m H' I7 q hn f
  exact codeAny_compStart_dict lp (t.self X.A 0 _ _ _ bg.st lp)
theorem pe_dcT {kx vx tg iter : Expr} {ifs : List Expr} {scope : Scope} {own : List (Str × Nat)} {pos : Pos} {wi : TI} {g : TG} {tt : TT} {tk tv : TE} (hu : X.A.units + 1 < cLine) (hc : X.calm = true) (hN : X.N.Nodup) (hi : PI X tg iter wi) (ok : BlkOk X.N X.env.scope scope own)
    (hg : ∀ (s : Shared) (H : Hp) (C : Addr) (cl : List (Str × Addr)) (fp : List Addr), PG (X.blk s H scope (compEnvC scope cl C X.env) fp) tg g) (ht : ∀ (s : Shared) (H : Hp) (C : Addr) (cl : List (Str × Addr)) (fp : List Addr), PTs (X.blk s H scope (compEnvC scope cl C X.env) fp) ifs tt)
    (hk : ∀ (s : Shared) (H : Hp) (C : Addr) (cl : List (Str × Addr)) (fp : List Addr), PE (X.blk s H scope (compEnvC scope cl C X.env) fp) kx tk)
    (he : ∀ (s : Shared) (H : Hp) (C : Addr) (cl : List (Str × Addr)) (fp : List Addr), PE (X.blk s H scope (compEnvC scope cl C X.env) fp) vx tv) (hs : ∀ x, foldedSetIterable iter X.env x = pure x := by intro _; rfl) :
    PE X (.DictComp kx vx [⟨tg, iter, ifs, 0⟩] scope pos) (tDcT wi g tt tk tv (own.map (·.2))) := by
  refine ⟨fun pins s σ H Q I h => ?_⟩
  rw [arm_eval_DictComp]
  refine dcT_core hu hc hN hi ok hg ht hk he hs I h fun D C s' m H' I' q hn f => ⟨m, hn, fun h'' sb => ?_⟩
  obtain ⟨f0, f1, f2, f3, f4, f5⟩ := f
  exact ⟨.ref D, H', I'.turned (t' := s'.toks) (fun b o hb z => (sb.2 b hb).trans z) f0 f1 f3 f4 f5, rfl, q⟩
theorem ps_setDcT {i : Nat} {y : Str} {py spos : Pos} {kx vx tg iter : Expr} {ifs : List Expr} {scope : Scope} {own : List (Str × Nat)} {pos : Pos} {wi : TI} {g : TG} {tt : TT} {tk tv : TE} (hu : X.A.units + 1 < cLine) (hc : X.calm = true) (hN : X.N.Nodup) (hy : X.N[i]? = some y) (hyl : X.env.scope.names.lookup y = some .local) (hsw : swapsWith (.DictComp kx vx [⟨tg, iter, ifs, 0⟩] scope pos) (some (.Name y py)) spos.line X.env = pure true) (hi : PI X tg iter wi) (ok : BlkOk X.N X.env.scope scope own)
    (hg : ∀ (s : Shared) (H : Hp) (C : Addr) (cl : List (Str × Addr)) (fp : List Addr), PG (X.blk s H scope (compEnvC scope cl C X.env) fp) tg g) (ht : ∀ (s : Shared) (H : Hp) (C : Addr) (cl : List (Str × Addr)) (fp : List Addr), PTs (X.blk s H scope (compEnvC scope cl C X.env) fp) ifs tt)
    (hk : ∀ (s : Shared) (H : Hp) (C : Addr) (cl : List (Str × Addr)) (fp : List Addr), PE (X.blk s H scope (compEnvC scope cl C X.env) fp) kx tk)
    (he : ∀ (s : Shared) (H : Hp) (C : Addr) (cl : List (Str × Addr)) (fp : List Addr), PE (X.blk s H scope (compEnvC scope cl C X.env) fp) vx tv) (hs : ∀ x, foldedSetIterable iter X.env x = pure x := by intro _; rfl) :
    PS X (.Assign [.Name y py] (.DictComp kx vx [⟨tg, iter, ifs, 0⟩] scope pos) spos) (tAsg (tDcT wi g tt tk tv (own.map (·.2))) (gName i)) := by
  refine ⟨fun pins s σ H D I h => ?_⟩
  rw [exec_Assign_Name_used _ _ _ _ hsw]
  refine wpAny_bind (wpAny_standAt (wpAny_bind ?_))
  show wpAny _ X.A (do let _ ← comprehension (.DictComp kx vx [⟨tg, iter, ifs, 0⟩] scope pos) scope X.env (firstIterPos [⟨tg, iter, ifs, 0⟩] pos) newDict false (eval iter X.env) (some (assign (.Name y py) X.env))) _ _ s
  have h : (tDcT wi g tt tk tv (own.map (·.2))) σ H (fun x H1 => gName i x σ H1 D.nx) := h
  refine wpAny_bind (thn (dcT_core (Qf := fun _ s' => SP X pins D .next s') hu hc hN hi ok hg ht hk he hs I h fun L C s' m H' I' q hn f => ?_) fun _ s' hq => wpAny_pure (wpAny_pure hq))
  refine wpAny_assign_Name (store_ok2 (v := V.ref L) I' hN hy (.inl hyl) rfl (fun s2 I2 z => ?_) (.inr hyl))
  obtain ⟨a, sb, ha⟩ := z
  obtain ⟨f0, f1, f2, f3, f4, f5⟩ := f
  have haC : C ≠ a := by
    rcases ha with z | z
    · rw [z]
      exact f1
    · exact fun w => f4 y a z w.symm
  refine ⟨m, hn.sameBut sb haC, fun h3 sb3 => ⟨_, H', I2.turned (t' := s2.toks) (fun b o hb w => (sb3.2 b hb).trans w) f0 f1 f3 f4 f5, q⟩⟩
theorem dcT2_core {pins : List (Addr × Obj)} {s : Shared} {σ : St} {H : Hp} {Q : VK} {pos' : Pos} {use : Option (Value → Sem Unit)} {Qf : Value → Shared → Prop} {kx vx tg iter tg1 iter1 : Expr} {ifs ifs1 : List Expr} {scope : Scope} {own : List (Str × Nat)} {vs1 : List Nat} {pos : Pos} {wi wi1 : TI} {g g1 : TG} {tt tt1 : TT} {tk tv : TE} (hu : X.A.units + 1 < cLine) (hc : X.calm = true) (hN : X.N.Nodup) (hi : PI X tg iter wi) (ok : BlkOk X.N X.env.scope scope own) (hv : ∀ i ∈ vs1, i ∈ own.map (·.2))
    (hg : ∀ (s : Shared) (H : Hp) (C : Addr) (cl : List (Str × Addr)) (fp : List Addr), PG (X.blk s H scope (compEnvC scope cl C X.env) fp) tg g) (ht : ∀ (s : Shared) (H : Hp) (C : Addr) (cl : List (Str × Addr)) (fp : List Addr), PTs (X.blk s H scope (compEnvC scope cl C X.env) fp) ifs tt)
    (hi1 : ∀ (s : Shared) (H : Hp) (C : Addr) (cl : List (Str × Addr)) (fp : List Addr), PI (X.blk s H scope (compEnvC scope cl C X.env) fp) tg1 iter1 wi1)
    (hg1 : ∀ (s : Shared) (H : Hp) (C : Addr) (cl : List (Str × Addr)) (fp : List Addr), PG (X.blk s H scope (compEnvC scope cl C X.env) fp) tg1 g1) (ht1 : ∀ (s : Shared) (H : Hp) (C : Addr) (cl : List (Str × Addr)) (fp : List Addr), PTs (X.blk s H scope (compEnvC scope cl C X.env) fp) ifs1 tt1)
    (hk : ∀ (s : Shared) (H : Hp) (C : Addr) (cl : List (Str × Addr)) (fp : List Addr), PE (X.blk s H scope (compEnvC scope cl C X.env) fp) kx tk)
    (he : ∀ (s : Shared) (H : Hp) (C : Addr) (cl : List (Str × Addr)) (fp : List Addr), PE (X.blk s H scope (compEnvC scope cl C X.env) fp) vx tv) (hs : ∀ x, foldedSetIterable iter X.env x = pure x) (hs1 : ∀ env x, foldedSetIterable iter1 env x = pure x)
    (I : Inv X pins σ H s) (h : tDcT2 wi g tt wi1 g1 tt1 tk tv (own.map (·.2)) vs1 σ H Q) (hRR : ∀ D C s' m H', Inv X pins σ H' s' → Q (.ref D) H' → s'.heap.Ns C m → FpOk X pins H' C → compPost (model X.prog X.w) X.A X.xe use Qf (.ref D) C (.ok .next) s') :
    wpAny (model X.prog X.w) X.A (comprehension (.DictComp kx vx [⟨tg, iter, ifs, 0⟩, ⟨tg1, iter1, ifs1, 0⟩] scope pos) scope X.env pos' newDict false (eval iter X.env) use) Qf X.xe s := by
  refine dict_begin (Rd := fun J D H3 => lpRead J g tt (own.map (fun p : Str × Nat => p.2)) σ (bIn wi1 g1 tt1 vs1 (bPut tk tv D)) (fun H' => Q (.ref D) H') H3) hc hN I hi ok hs h fun it D fp tn J s3 s4 H3 C cl rd tx t bg => ?_
  obtain ⟨W, ⟨m0, w0⟩, turn⟩ := rd
  have lp : codeAny (model X.prog X.w) X.A (.compLoop (.DictComp kx vx [⟨tg, iter, ifs, 0⟩, ⟨tg1, iter1, ifs1, 0⟩] scope pos) 0 (.ref it) (.ref D) (compEnvC scope cl C X.env)) (compPost (model X.prog X.w) X.A X.xe use Qf (.ref D) C) s4 := by
    refine blk_loop (X := X.blk s3 H3 scope (compEnvC scope cl C X.env) fp) (ps := []) (σ0 := σ) (Inner := goIn (.DictComp kx vx [⟨tg, iter, ifs, 0⟩, ⟨tg1, iter1, ifs1, 0⟩] scope pos) iter1 (.ref D) (compEnvC scope cl C X.env)) rfl rfl turn_d2a tx rfl (hg s3 H3 C cl fp) (ht s3 H3 C cl fp) W (fun H' => Q (.ref D) H') (bIn wi1 g1 tt1 vs1 (bPut tk tv D)) turn ?_ ?_ bg.fpok bg.inv bg.st bg.free w0
    · intro Nx pl σ2 H4 s5 I5 hw b
      refine in_any (hs1 _) (noE (wpAny_mono ((hi1 s3 H3 C cl fp).run _ s5 σ2 H4 _ I5 b) (fun _ _ z => z) fun _ _ z => z) fun xv s6 hx => noE hx fun itv s7 h7 => ?_)
      obtain ⟨it1, fp1, tn1, J1, H7, rfl, I7, t1, st7, f7, W1, ⟨m1, w1⟩, turn1⟩ := h7
      have lp1 : codeAny (model X.prog X.w) X.A (.compLoop (.DictComp kx vx [⟨tg, iter, ifs, 0⟩, ⟨tg1, iter1, ifs1, 0⟩] scope pos) 1 (.ref it1) (.ref D) (compEnvC scope cl C X.env))
          (fun r s' => match r with
            | .ok _ => ∃ σ' H', Inv (X.blk s3 H3 scope (compEnvC scope cl C X.env) fp) ([] ++ pl) σ' H' s' ∧ (wipe σ (own.map (·.2))).length = σ'.length ∧ (∀ (j : Nat) v, (wipe σ (own.map (·.2)))[j]? = some (some v) → σ'[j]? = some (some v)) ∧ Nx H'
            | .error _ => False) s7 := by
        refine blk_loop (X := X.blk s3 H3 scope (compEnvC scope cl C X.env) fp) (ps := [] ++ pl) (σ0 := σ2) (vs := vs1) (Inner := putIn kx vx D (compEnvC scope cl C X.env)) rfl rfl turn_d2b (turnX_of t1 rfl rfl rfl hc) rfl (hg1 s3 H3 C cl fp) (ht1 s3 H3 C cl fp) W1 Nx (bPut tk tv D) turn1 ?_ ?_ (fun H' hn b hb => ⟨hn b hb, (f7 b hb).2⟩)
          (I7.weak (wipe_length _ _) fun j v z => (wipe_some z).1) st7 (fun b hb => (f7 b hb).1) w1
        · intro Nx1 pl1 σ3 H8 s8 I8 hw8 b8
          exact put_run (X := X.blk s3 H3 scope (compEnvC scope cl C X.env) fp) hu rfl (hk s3 H3 C cl fp) (he s3 H3 C cl fp) I8 hw8 b8
        · intro H' s' I' nx
          refine ⟨wipe σ2 vs1, H', I', ?_, fun j v z => ?_, nx⟩
          · rw [← hw, wipe_length, wipe_length]
          · rw [← hw] at z
            obtain ⟨z1, z2⟩ := wipe_some z
            rw [wipe_out fun y => z2 (hv j y)]
            exact z1
      refine start_any (g := ⟨tg1, iter1, ifs1, 0⟩) rfl rfl rfl (fun _ => rfl) rfl rfl lp1 (t1.self X.A 0 _ _ _ st7 lp1)
    · intro H' s' I' q
      obtain ⟨I7, m, hn, f⟩ := bg.leave _ _ _ I'
      exact hRR D C s' m H' I7 q hn f
  exact codeAny_compStart_dict lp (t.self X.A 0 _ _ _ bg.st lp)
theorem pe_dcT2 {kx vx tg iter tg1 iter1 : Expr} {ifs ifs1 : List Expr} {scope : Scope} {own : List (Str × Nat)} {vs1 : List Nat} {pos : Pos} {wi wi1 : TI} {g g1 : TG} {tt tt1 : TT} {tk tv : TE} (hu : X.A.units + 1 < cLine) (hc : X.calm = true) (hN : X.N.Nodup) (hi : PI X tg iter wi) (ok : BlkOk X.N X.env.scope scope own) (hv : ∀ i ∈ vs1, i ∈ own.map (·.2))
    (hg : ∀ (s : Shared) (H : Hp) (C : Addr) (cl : List (Str × Addr)) (fp : List Addr), PG (X.blk s H scope (compEnvC scope cl C X.env) fp) tg g) (ht : ∀ (s : Shared) (H : Hp) (C : Addr) (cl : List (Str × Addr)) (fp : List Addr), PTs (X.blk s H scope (compEnvC scope cl C X.env) fp) ifs tt)
    (hi1 : ∀ (s : Shared) (H : Hp) (C : Addr) (cl : List (Str × Addr)) (fp : List Addr), PI (X.blk s H scope (compEnvC scope cl C X.env) fp) tg1 iter1 wi1)
    (hg1 : ∀ (s : Shared) (H : Hp) (C : Addr) (cl : List (Str × Addr)) (fp : List Addr), PG (X.blk s H scope (compEnvC scope cl C X.env) fp) tg1 g1) (ht1 : ∀ (s : Shared) (H : Hp) (C : Addr) (cl : List (Str × Addr)) (fp : List Addr), PTs (X.blk s H scope (compEnvC scope cl C X.env) fp) ifs1 tt1)
    (hk : ∀ (s : Shared) (H : Hp) (C : Addr) (cl : List (Str × Addr)) (fp : List Addr), PE (X.blk s H scope (compEnvC scope cl C X.env) fp) kx tk)
    (he : ∀ (s : Shared) (H : Hp) (C : Addr) (cl : List (Str × Addr)) (fp : List Addr), PE (X.blk s H scope (compEnvC scope cl C X.env) fp) vx tv) (hs : ∀ x, foldedSetIterable iter X.env x = pure x := by intro _; rfl) (hs1 : ∀ env x, foldedSetIterable iter1 env x = pure x := by intro _ _; rfl) :
    PE X (.DictComp kx vx [⟨tg, iter, ifs, 0⟩, ⟨tg1, iter1, ifs1, 0⟩] scope pos) (tDcT2 wi g tt wi1 g1 tt1 tk tv (own.map (·.2)) vs1) := by
  refine ⟨fun pins s σ H Q I h => ?_⟩
  rw [arm_eval_DictComp]
  refine dcT2_core hu hc hN hi ok hv hg ht hi1 hg1 ht1 hk he hs hs1 I h fun D C s' m H' I' q hn f => ⟨m, hn, fun h'' sb => ?_⟩
  obtain ⟨f0, f1, f2, f3, f4, f5⟩ := f
  exact ⟨.ref D, H', I'.turned (t' := s'.toks) (fun b o hb z => (sb.2 b hb).trans z) f0 f1 f3 f4 f5, rfl, q⟩
theorem ps_setDcT2 {i : Nat} {y : Str} {py spos : Pos} {kx vx tg iter tg1 iter1 : Expr} {ifs ifs1 : List Expr} {scope : Scope} {own : List (Str × Nat)} {vs1 : List Nat} {pos : Pos} {wi wi1 : TI} {g g1 : TG} {tt tt1 : TT} {tk tv : TE} (hu : X.A.units + 1 < cLine) (hc : X.calm = true) (hN : X.N.Nodup) (hy : X.N[i]? = some y) (hyl : X.env.scope.names.lookup y = some .local) (hsw : swapsWith (.DictComp kx vx [⟨tg, iter, ifs, 0⟩, ⟨tg1, iter1, ifs1, 0⟩] scope pos) (some (.Name y py)) spos.line X.env = pure true) (hi : PI X tg iter wi) (ok : BlkOk X.N X.env.scope scope own) (hv : ∀ i ∈ vs1, i ∈ own.map (·.2))
    (hg : ∀ (s : Shared) (H : Hp) (C : Addr) (cl : List (Str × Addr)) (fp : List Addr), PG (X.blk s H scope (compEnvC scope cl C X.env) fp) tg g) (ht : ∀ (s : Shared) (H : Hp) (C : Addr) (cl : List (Str × Addr)) (fp : List Addr), PTs (X.blk s H scope (compEnvC scope cl C X.env) fp) ifs tt)
    (hi1 : ∀ (s : Shared) (H : Hp) (C : Addr) (cl : List (Str × Addr)) (fp : List Addr), PI (X.blk s H scope (compEnvC scope cl C X.env) fp) tg1 iter1 wi1)
    (hg1 : ∀ (s : Shared) (H : Hp) (C : Addr) (cl : List (Str × Addr)) (fp : List Addr), PG (X.blk s H scope (compEnvC scope cl C X.env) fp) tg1 g1) (ht1 : ∀ (s : Shared) (H : Hp) (C : Addr) (cl : List (Str × Addr)) (fp : List Addr), PTs (X.blk s H scope (compEnvC scope cl C X.env) fp) ifs1 tt1)
    (hk : ∀ (s : Shared) (H : Hp) (C : Addr) (cl : List (Str × Addr)) (fp : List Addr), PE (X.blk s H scope (compEnvC scope cl C X.env) fp) kx tk)
    (he : ∀ (s : Shared) (H : Hp) (C : Addr) (cl : List (Str × Addr)) (fp : List Addr), PE (X.blk s H scope (compEnvC scope cl C X.env) fp) vx tv) (hs : ∀ x, foldedSetIterable iter X.env x = pure x := by intro _; rfl) (hs1 : ∀ env x, foldedSetIterable iter1 env x = pure x := by intro _ _; rfl) :
    PS X (.Assign [.Name y py] (.DictComp kx vx [⟨tg, iter, ifs, 0⟩, ⟨tg1, iter1, ifs1, 0⟩] scope pos) spos) (tAsg (tDcT2 wi g tt wi1 g1 tt1 tk tv (own.map (·.2)) vs1) (gName i)) := by
  refine ⟨fun pins s σ H D I h => ?_⟩
  rw [exec_Assign_Name_used _ _ _ _ hsw]
  refine wpAny_bind (wpAny_standAt (wpAny_bind ?_))
  show wpAny _ X.A (do let _ ← comprehension (.DictComp kx vx [⟨tg, iter, ifs, 0⟩, ⟨tg1, iter1, ifs1, 0⟩] scope pos) scope X.env (firstIterPos [⟨tg, iter, ifs, 0⟩, ⟨tg1, iter1, ifs1, 0⟩] pos) newDict false (eval iter X.env) (some (assign (.Name y py) X.env))) _ _ s
  have h : (tDcT2 wi g tt wi1 g1 tt1 tk tv (own.map (·.2)) vs1) σ H (fun x H1 => gName i x σ H1 D.nx) := h
  refine wpAny_bind (thn (dcT2_core (Qf := fun _ s' => SP X pins D .next s') hu hc hN hi ok hv hg ht hi1 hg1 ht1 hk he hs hs1 I h fun L C s' m H' I' q hn f => ?_) fun _ s' hq => wpAny_pure (wpAny_pure hq))
  refine wpAny_assign_Name (store_ok2 (v := V.ref L) I' hN hy (.inl hyl) rfl (fun s2 I2 z => ?_) (.inr hyl))
  obtain ⟨a, sb, ha⟩ := z
  obtain ⟨f0, f1, f2, f3, f4, f5⟩ := f
  have haC : C ≠ a := by
    rcases ha with z | z
    · rw [z]
      exact f1
    · exact fun w => f4 y a z w.symm
  refine ⟨m, hn.sameBut sb haC, fun h3 sb3 => ⟨_, H', I2.turned (t' := s2.toks) (fun b o hb w => (sb3.2 b hb).trans w) f0 f1 f3 f4 f5, q⟩⟩
theorem sw_dc {kx vx : Expr} {gs : List Comprehension} {scope : Scope} {pos py : Pos} {y : Str} {l : Nat} {env : Env} (hk : env.scope.kind = .function) (hy : env.scope.names.lookup y = some .local) (hl : (py.line == pos.line) = true)
    (ha : (scope.names.any fun (n, k) => n == y && (k == .local || k == .cell)) = false) : swapsWith (.DictComp kx vx gs scope pos) (some (.Name y py)) l env = pure true := by
  have ky : env.kindOf y = some .local := hy
  have hb : env.blockKind = .function := by
    unfold Env.blockKind
    rw [hk]
    rfl
  unfold swapsWith
  simp only [hb, ky, ha, Expr.pos, hl]
  rfl
end
end Tf

/-! sorted(xs, key=..): the key a lambda or a def that gives a pair of a pair's numbers. -/
namespace Tf
open PySem PySem.Spec PyProof.Rows L2 Dt
section
variable {prog : Program} {w : World} {A : Around} {E : Value → Shared → Prop} {s : Shared} {env : Env}
/-- x[k] of a pair -/
theorem raw_item {x : Str} {t : Addr} {m : Str → Option Value} {vs : Array Value} {k : Nat} {v : Value} {p1 p2 p3 : Pos} {z : Nat} {Q : Value → Shared → Prop} (hk : env.scope.kind = .function) (hl : env.kindOf x = some .local) (hd : (x == ("__debug__" : Str)) = false) (hn : s.heap.Ns env.locals m) (hm : m x = some (.ref t))
    (ht : IsTup s.heap t vs) (hv : vs[k]? = some v) (hs : vs.size < 1000) (h : ∀ tk, Q v { s with toks := tk }) : wpAny (model prog w) A (eval (.Subscript (.Name x p1) (.Constant (.int (k : Int)) z p2) p3) env) Q E s := by
  have lt : k < vs.size := by
    obtain ⟨h1, _⟩ := Array.getElem?_eq_some_iff.mp hv
    exact h1
  refine Subscript_ (wpAny_Name (wpAny_loadName_local hk hl hn hm (wpAny_Constant_int ?_)) hd)
  have tt : IsTup ({ s with toks := s.toks + 1 } : Shared).heap t vs := ht
  exact subscriptTail_builtinR (x := v) tt.typeIs slot_tuple_getitem.lookup
    (getItem_tuple (j := k) (Q := fun r s' => r = v ∧ Q r s') tt (by omega) (by omega) (by rw [seqIndex_of (by omega) (by omega)]; simp) hv ⟨rfl, h _⟩)
/-- (x[i], x[j]) of a pair -/
theorem raw_key {x : Str} {t : Addr} {m : Str → Option Value} {vs : Array Value} {i j : Nat} {u v : Value} {p1 p2 p3 p4 p5 p6 p7 : Pos} {y z : Nat} {k0 : Nat} {Q : Value → Shared → Prop} (hk : env.scope.kind = .function) (hl : env.kindOf x = some .local) (hd : (x == ("__debug__" : Str)) = false) (hn : s.heap.Ns env.locals m) (hm : m x = some (.ref t))
    (ht : IsTup s.heap t vs) (hu : vs[i]? = some u) (hv : vs[j]? = some v) (hs : vs.size < 1000) (h : ∀ tk, Q (.ref s.heap.objs.size) { s with heap := s.heap.push { cls := .type "tuple", data := .seq #[u, v] }, toks := tk })
    (he : starEach [.Subscript (.Name x p1) (.Constant (.int (i : Int)) y p2) p3, .Subscript (.Name x p4) (.Constant (.int (j : Int)) z p5) p6] env =
      [(false, eval (.Subscript (.Name x p1) (.Constant (.int (i : Int)) y p2) p3) env), (false, eval (.Subscript (.Name x p4) (.Constant (.int (j : Int)) z p5) p6) env)] := by rfl) :
    wpAny (model prog w) A (eval (.Tuple [.Subscript (.Name x p1) (.Constant (.int (i : Int)) y p2) p3, .Subscript (.Name x p4) (.Constant (.int (j : Int)) z p5) p6] k0 p7) env) Q E s := by
  refine wpAny_Tuple_spliced ?_
  rw [he]
  refine Calls.spliced_cons (raw_item hk hl hd hn hm ht hu hs fun tk => ?_)
  refine Calls.spliced_cons (raw_item hk hl hd hn hm ht hv hs fun tk => Calls.spliced_nil ⟨(by show 2 ≤ sizeLine; decide), ?_⟩)
  exact h tk
end
section
variable {X : Cx} {pins : List (Addr × Obj)} {σ : St} {H : Hp} {s : Shared} {T : List (Addr × Str)}
/-- the lambda is made: only its maker's table changes, what is told of it stays -/
theorem lam_new {c P : Addr} {params : Arguments} {body : Expr} {scope : Scope} {pos : Pos} {E : Value → Shared → Prop} {Q : Value → Shared → Prop} (I : Inv X pins σ H s) (TB : LamX.TabB X.base X.mg c P) (hcode : X.env.code = .ref c)
    (hm : (P, X.env.qual ++ "<lambda>") ∈ T) (hu : ∀ p ∈ T, p.1 = P → p.2 = X.env.qual ++ "<lambda>") (hT : LamX.Tabs T H) (hdef : defaultsOf params X.env = ([], [])) (hfree : ∀ y ∈ scope.names, y.2 = .free → ∃ c, X.env.cells.lookup y.1 = some c)
    (h : ∀ (f c' : Addr) (pm ctv : Value) (H1 : Hp) (s' : Shared), Inv X pins σ H1 s' → Ext H H1 → LamX.Tabs T H1 →
      s'.heap.get? f = some (PySem.W.kla_obj "<lambda>" (X.env.qual ++ "<lambda>") params body scope (cloFrom X.env.cells scope.names []) pm c' ctv) → H1 c' = some (LamX.CodeO c' (X.env.qual ++ "<lambda>")) → Q (.ref f) s') :
    wpAny (model X.prog X.w) X.A (eval (.Lambda params body scope pos) X.env) Q E s := by
  obtain ⟨ps, hP, ht, ha⟩ := hT _ hm
  have bP : s.heap.BuiltinsAt X.mg P := TB.bm.keeps I.bk
  have gP : s.heap.get? P = some { cls := .none, data := .fields ps } := I.hok P _ hP
  have gl := I.mod.glob.keeps I.bk
  have cl := closure_ok hfree
  refine PySem.W.kla_eval hdef ?_
  rcases hc : codeAmong pos ps.toList with _ | cv
  · refine PySem.W.kla_makeFunction (mg := X.mg) cl I.ok.glob gl hcode (TB.code.keeps I.bk) gP ht hc TB.gP bP fun c' ctv h' tk hx hge hlt hrec htb => ?_
    obtain ⟨c2, oc, vs, t, e2, hoc, hdt, hvt⟩ := hrec
    cases e2
    have nC : H c' = none := I.hok.fresh hge
    have nP : P ≠ c' := ne_of_none hP nC
    have up : ∀ {b : Addr} {o : Obj}, h'.get? b = some o → (h'.push (PySem.W.kla_obj "<lambda>" (X.env.qual ++ "<lambda>") params body scope (cloFrom X.env.cells scope.names []) ((X.mg "__name__").getD .none) c' ctv)).get? b = some o := fun z => Heap.get?_push_of_some _ z
    have J := LamX.inv_table (t' := tk) (more := #[rawInt pos.line, rawInt pos.col, .ref c']) I hP (fun b o hb z => up (hx b o hb z)) (up htb) hge ⟨oc, vs, t, up hoc, hdt, hvt⟩
    have stay : ∀ b o, H b = some o → notTbl o → upd (upd H P (.tbl (ps ++ #[rawInt pos.line, rawInt pos.col, .ref c']))) c' (LamX.CodeO c' (X.env.qual ++ "<lambda>")) b = some o := fun b o z n => by
      rw [upd_ne (ne_of_none z nC), upd_ne fun q => ?_]
      · exact z
      · rw [q, hP] at z
        cases z
        exact n ps rfl
    have lst : (ps ++ #[rawInt pos.line, rawInt pos.col, .ref c']).toList = ps.toList ++ [rawInt pos.line, rawInt pos.col, .ref c'] := by simp
    have nco : notTbl (LamX.CodeO c' (X.env.qual ++ "<lambda>")) := fun ps => LamX.codeO_ne ps
    refine h h'.objs.size c' ((X.mg "__name__").getD .none) ctv _ _ J ⟨stay, fun a z => ?_⟩ (fun p hp => ?_) (Heap.get?_push_size _ rfl) upd_same
    · by_cases q1 : a = c'
      · rw [q1, upd_same] at z
        cases z
      · rw [upd_ne q1] at z
        by_cases q2 : a = P
        · rw [q2, upd_same] at z
          cases z
        · rw [upd_ne q2] at z
          exact z
    · by_cases hb : p.1 = P
      · rw [hu p hp hb, hb]
        refine ⟨_, by rw [upd_ne nP, upd_same], by rw [lst]; exact PySem.TriplesOk_snoc _ _ _ _ ht, fun p' cv hcv => ?_⟩
        rw [lst] at hcv
        rcases LamX.among_app _ ht hcv with z | z
        · obtain ⟨c0, e1, e2⟩ := ha p' cv z
          exact ⟨c0, e1, stay _ _ e2 fun ps => LamX.codeO_ne ps⟩
        · exact ⟨c', z, upd_same⟩
      · obtain ⟨ps', a1, a2, a3⟩ := hT p hp
        refine ⟨ps', by rw [upd_ne (ne_of_none a1 nC), upd_ne hb]; exact a1, a2, fun p' cv hcv => ?_⟩
        obtain ⟨c0, e1, e2⟩ := a3 p' cv hcv
        exact ⟨c0, e1, stay _ _ e2 fun ps => LamX.codeO_ne ps⟩
  · obtain ⟨c', rfl, hco⟩ := ha pos cv hc
    refine PySem.W.kla_makeFunctionHit (mg := X.mg) cl I.ok.glob gl hcode (TB.code.keeps I.bk) gP ht hc bP fun ctv h' tk hx hsz => ?_
    exact h h'.objs.size c' ((X.mg "__name__").getD .none) ctv H _ (I.kept fun b o z => Heap.get?_push_of_some _ (hx b o z)) (Ext.refl H) hT (Heap.get?_push_size _ rfl) hco
end
section
variable {prog : Program} {w : World} {A : Around} {s : Shared}
/-- a pair of numbers as data -/
theorem reads_pair {h : Heap} {a b : Int} {t u : Tok} : Reads (h.push { cls := .type "tuple", data := .seq #[.int a t, .int b u] }) (.ref h.objs.size) (.tuple [.int a, .int b]) [] :=
  .tuple (Heap.get?_push_size _ rfl) rfl rfl (.cons (as := []) (bs := []) (.int a t) (.cons (as := []) (bs := []) (.int b u) .nil))
/-- the key lambda, called with a pair -/
theorem lam_key {f t c' : Addr} {qual x : Str} {params : Arguments} {body : Expr} {scope : Scope} {cl : List (Str × Addr)} {pm ctv : Value} {vs : Array Value} {i j : Nat} {a b : Int} {ta tb : Tok} {p1 p2 p3 p4 p5 p6 p7 : Pos} {y z k0 : Nat}
    (hroom : A.depth < recursionLimit) (of1 : s.heap.get? f = some (PySem.W.kla_obj "<lambda>" qual params body scope cl pm c' ctv)) (hrec : s.heap.CodeRec (.ref c') qual) (lim : s.heap.NoLimit) (hk : scope.kind = .function) (co : scope.isCoroutine = false) (gen : scope.isGenerator = false)
    (own : ∀ q ∈ scope.names, q.2 = .local) (hx : scope.names.lookup x = some .local) (hd : (x == ("__debug__" : Str)) = false)
    (hbind : ∀ v : Value, bindArgs (PySem.W.kla_fn "<lambda>" qual params body scope cl pm (.ref c') ctv) ⟨[v], []⟩ = pure [(x, v)])
    (hb : body = .Tuple [.Subscript (.Name x p1) (.Constant (.int (i : Int)) y p2) p3, .Subscript (.Name x p4) (.Constant (.int (j : Int)) z p5) p6] k0 p7)
    (ht : IsTup s.heap t vs) (hu : vs[i]? = some (.int a ta)) (hv : vs[j]? = some (.int b tb)) (hs : vs.size < 1000) :
    wpAny (model prog w) A (call (.ref f) [.ref t]) (PySem.W.KeyPure (.tuple [.int a, .int b]) s) (fun _ _ => False) s := by
  refine wpAny_call (PySem.W.kla_callFunE hroom of1 rfl co gen rfl hrec ?_)
  rw [hbind]
  refine wpAny_pure (wpAny_newFunctionEnv (fun q hq => ?_) (fun q hq => ?_) (fun h1 hns hsb => ⟨lim.fresh _ hsb, ?_⟩) hk)
  · rw [own q hq]
    exact fun z => nomatch z
  · rw [List.mem_singleton.mp hq]
    exact hx
  · have keep : ∀ b o, s.heap.get? b = some o → h1.get? b = some o := fun b o q => hsb.extBut b o (Nat.ne_of_lt (Heap.lt_size q)) (Heap.get?_push_of_some _ q)
    refine PySem.W.kla_codeExpr ?_
    rw [hb]
    have tt : IsTup h1 t vs := by
      obtain ⟨o, h2, h3⟩ := ht
      exact ⟨o, keep _ _ h2, h3⟩
    refine raw_key (x := x) (m := fun y => [(x, Value.ref t)].reverse.lookup y) hk hx hd hns (by simp [List.lookup]) tt hu hv hs fun tk => ?_
    refine ⟨_, tk, rfl, fun b o q => Heap.get?_push_of_some _ (keep b o q), reads_pair⟩
end
/-- by the first number of the key, then by the second -/
def leK {ι : Type} (key : ι → Int × Int) : ι → ι → Bool := fun u w => decide ((key u).1 < (key w).1 ∨ ((key u).1 = (key w).1 ∧ (key u).2 ≤ (key w).2))
theorem each_vals : ∀ {us : List V} {its : List Value}, Vals us its → PySem.W.EachIs (fun v u => RelV u v) its us
  | _, _, .nil => .nil
  | _, _, .cons a r => .cons a (each_vals r)
theorem vals_each : ∀ {us : List V} {its : List Value}, PySem.W.EachIs (fun v u => RelV u v) its us → Vals us its
  | _, _, .nil => .nil
  | _, _, .cons a r => .cons a (vals_each r)
theorem sort_run {X : Cx} {pins : List (Addr × Obj)} {σ : St} {H : Hp} {s : Shared} {a q : Addr} {us : List V} {key : V → Int × Int} {Q : VK} (I : Inv X pins σ H s) (hs : SqL X.K H a us) (hu : X.A.units + 8 < cLine)
    (turn : ∀ u ∈ us, ∀ v, RelV u v → ∀ (h : Heap) (tk : Nat), (∀ b o, s.heap.get? b = some o → h.get? b = some o) →
      wpAny (model X.prog X.w) X.A.in1.in1 (call (.ref q) [v]) (PySem.W.KeyPure (.tuple [.int (key u).1, .int (key u).2]) { s with heap := h, toks := tk }) (fun _ _ => False) { s with heap := h, toks := tk })
    (k : ∀ p, H p = none → Q (.ref p) (upd H p (.lst (us.mergeSort (leK key))))) :
    wpAny (model X.prog X.w) X.A (call (.builtin "sorted") [.ref a] [(Str.ofString "key", .ref q)]) (EP X pins σ Q) X.xe s := by
  obtain ⟨its, rv, hl, hz⟩ := I.list hs
  refine PySem.W.sorted_key_data (R := fun v u => RelV u v) (bs := us) (b := false) (f := .ref q) (fun u => .tuple [.int (key u).1, .int (key u).2]) hl.isList (each_vals rv) ?_ ?_ hz ?_ (PyProof.Rows.ksk_s1 _ _) (fun x => PyProof.Rows.ksk_l1 _ _) (fun x => PyProof.Rows.ksk_t1 _ _)
    (fun v u hR hm h tk kp => turn u hm v hR h tk kp) fun out c h' tk kp fr hD hlen he => ?_
  · exact PySem.W.AllAlike.of fun b b' => by simp [PySem.W.alike, PySem.W.alikeAll]
  · exact PySem.W.Sortable.tuples fun b => ⟨_, _, rfl⟩
  · intro x hx
    simp only [PyData.depth, PyData.depthAll]
    omega
  · rw [PySem.W.dataLe_ii] at he
    have rv2 := vals_each he
    refine ⟨.ref (s.heap.objs.size + 1), upd H (s.heap.objs.size + 1) (.lst (us.mergeSort (leK key))), I.laid (t' := tk) kp (Nat.le_succ _) ⟨?_, out, c, rv2, hD⟩, rfl, k _ (I.hok.fresh (Nat.le_succ _))⟩
    rw [List.length_mergeSort]
    exact hz
/-- the key of a pair in H: its second number, then its first -/
def keyAt (H : Hp) (u : V) : Int × Int := match u with
  | .ref t => (match H t with
    | some (.tup [.int i, .int j]) => (j, i)
    | _ => (0, 0))
  | _ => (0, 0)
def tSortP (T : List (Addr × Str)) (K : PySem.W.Frag) (ta : TA) : TE := fun σ H Q => ta σ H fun vs H1 => LamX.Tabs T H1 ∧ ∃ p us, vs = [.ref p] ∧ SqL K H1 p us ∧ (∀ u ∈ us, ∃ t i j, u = .ref t ∧ H1 t = some (.tup [.int i, .int j])) ∧
  ∀ H2, Ext H1 H2 → LamX.Tabs T H2 → ∀ q, H2 q = none → Q (.ref q) (upd H2 q (.lst (us.mergeSort (leK (keyAt H1)))))
theorem pe_sortLam {X : Cx} {T : List (Addr × Str)} {a : Expr} {ta : TA} {c P : Addr} {x : Str} {params : Arguments} {scope : Scope} {p pos lp kp p1 p2 p3 p4 p5 p6 p7 : Pos} {y z k0 k : Nat} (hm : X.mg "sorted" = none) (ha : PA X [a] ta) (hr : Room k X.A) (TB : LamX.TabB X.base X.mg c P) (hcode : X.env.code = .ref c)
    (hT : (P, X.env.qual ++ "<lambda>") ∈ T) (hu : ∀ p ∈ T, p.1 = P → p.2 = X.env.qual ++ "<lambda>") (hdef : defaultsOf params X.env = ([], [])) (hk : scope.kind = .function) (co : scope.isCoroutine = false) (gen : scope.isGenerator = false)
    (own : ∀ q ∈ scope.names, q.2 = .local) (hx : scope.names.lookup x = some .local) (hd : (x == ("__debug__" : Str)) = false)
    (hbind : ∀ (pm cd ctv : Value) (cl : List (Str × Addr)) (v : Value), bindArgs (PySem.W.kla_fn "<lambda>" (X.env.qual ++ "<lambda>") params (.Tuple [.Subscript (.Name x p1) (.Constant (.int 1) y p2) p3, .Subscript (.Name x p4) (.Constant (.int 0) z p5) p6] k0 p7) scope cl pm cd ctv) ⟨[v], []⟩ = pure [(x, v)])
    (hg : Gl X "sorted" := by rfl) (he : starEach [a] X.env = [(false, eval a X.env)] := by rfl) :
    PE X (.Call (.Name "sorted" p) [a] [⟨some "key", .Lambda params (.Tuple [.Subscript (.Name x p1) (.Constant (.int 1) y p2) p3, .Subscript (.Name x p4) (.Constant (.int 0) z p5) p6] k0 p7) scope lp, kp⟩] pos) (tSortP T X.K ta) := by
  refine ⟨fun pins s σ H Q I h => ?_⟩
  have hv : bootBuiltins ("sorted" : Str) = some (.builtin "sorted") := by decide +kernel
  refine wpAny_Call_Name_kw (ld_blt I hg hm hv ?_ (by decide) (by decide))
  have hb : backTo pos (starEach [a] X.env) = (false, eval a X.env) :: backTo pos (starEach [] X.env) := by
    rw [he]
    rfl
  have hb1 : (backTo pos (starEach [a] X.env)).any (·.1) = false := by
    rw [hb]
    rfl
  refine PyProof.Rows.callWith_kw (e := a) (rest := []) ?_ hb hb1 (by rfl) (by rfl)
  refine thn (ha.run pos pins s σ H _ I h) fun us s1 hq => ?_
  obtain ⟨vs, H1, I1, rv, t1, l, ys, rfl, hs, hp, q⟩ := hq
  obtain rfl := Vals.ref1 rv
  show wpAny _ _ (evalAll [do let v ← eval (.Lambda params _ scope lp) X.env; standAt pos; pure v]) _ _ s1
  have free : ∀ y ∈ scope.names, y.2 = .free → ∃ c, X.env.cells.lookup y.1 = some c := fun y hy e => by
    rw [own y hy] at e
    cases e
  refine wpAny_evalAll_cons (wpAny_bind (lam_new I1 TB hcode hT hu t1 hdef free fun f c' pm ctv H2 s2 I2 x2 t2 of2 co2 => wpAny_bind (wpAny_standAt (wpAny_pure (wpAny_evalAll_nil ?_)))))
  show wpAny _ _ (call (.builtin "sorted") [.ref l] [(Str.ofString "key", .ref f)]) _ _ s2
  have hs2 : SqL X.K H2 l ys := by
    rcases hs with z | z
    · rcases z with z | ⟨o, z⟩
      · exact .inl (.inl (x2.keep _ _ z nt_lst))
      · exact .inl (.inr ⟨o, x2.keep _ _ z fun ps q => by cases q⟩)
    · exact .inr z
  obtain ⟨⟨oc, cvs, ct, hoc, hdc, hvc⟩, _, _⟩ := I2.hok c' _ co2
  refine sort_run (key := keyAt H1) I2 hs2 (by have := hr.un; omega) (fun u hu2 v ru h tk kp => ?_) fun p hp2 => q H2 x2 t2 p hp2
  obtain ⟨t, i, j, rfl, ht⟩ := hp u hu2
  cases ru
  obtain ⟨_, its, ri, o, o1, o2, n, o3⟩ := (show ObjOk X.prog X.w H2 s2.heap t (.tup [.int i, .int j]) from I2.hok t _ (x2.keep _ _ ht nt_tup))
  obtain ⟨ti, tj, rfl⟩ := Vals.int2 ri
  have ke : keyAt H1 (.ref t) = (j, i) := by simp only [keyAt, ht]
  rw [ke]
  have tt : IsTup ({ s2 with heap := h, toks := tk } : Shared).heap t #[.int i ti, .int j tj] := ⟨o, kp _ _ o1, o2, n, o3⟩
  exact lam_key (i := 1) (j := 0) (s := { s2 with heap := h, toks := tk }) hr.depth (kp _ _ of2) ⟨c', oc, cvs, ct, rfl, kp _ _ hoc, hdc, hvc⟩ (I2.nolimit.keeps kp) hk co gen own hx hd (fun v => hbind _ _ _ _ v) rfl tt rfl rfl (by show 2 < 1000; decide)
/-- a def whose body gives the key, called with a pair -/
theorem def_key {prog : Program} {w : World} {A : Around} {s : Shared} {K : PySem.W.Frag} {f t : Addr} {name qual x : Str} {params : Arguments} {scope : Scope} {fd : FuncData} {vs : Array Value} {i j : Nat} {a b : Int} {ta tb : Tok} {p1 p2 p3 p4 p5 p6 p7 p8 : Pos} {y z k0 : Nat}
    (F : FunD K name qual params [.Return (some (.Tuple [.Subscript (.Name x p1) (.Constant (.int (i : Int)) y p2) p3, .Subscript (.Name x p4) (.Constant (.int (j : Int)) z p5) p6] k0 p7)) p8] scope [] [] f fd) (bi : Binds K fd [x] []) (S : FnScope [x] [x] scope)
    (X : K.In s.heap) (lim : s.heap.NoLimit) (hroom : A.depth < recursionLimit) (hx : scope.names.lookup x = some .local) (hd : (x == ("__debug__" : Str)) = false) (ht : IsTup s.heap t vs) (hu : vs[i]? = some (.int a ta)) (hv : vs[j]? = some (.int b tb)) (hs : vs.size < 1000) :
    wpAny (model prog w) A (call (.ref f) [.ref t]) (PySem.W.KeyPure (.tuple [.int a, .int b]) s) (fun _ _ => False) s := by
  obtain ⟨oc, od, dV, kV, doc, pm, an, cdv, ct, osl, rfl, lk, hcd, _, _⟩ := F.ex
  refine wpAny_call (Att.call_fn (binds := [(x, .ref t)]) X lim lk hcd hroom (bi s [.ref t] X rfl) (by simp [hx]) (fun s1 IC => ?_) S.co S.gen S.kind)
  obtain ⟨h1, tk, rfl⟩ := IC.toInCall.same
  have keep : ∀ b o, s.heap.get? b = some o → h1.get? b = some o := IC.toInCall.keep
  have hn := IC.toInCall.ns
  have tt : IsTup h1 t vs := by
    obtain ⟨o, h2, h3⟩ := ht
    exact ⟨o, keep _ _ h2, h3⟩
  refine wpAny_execs_cons (wpAny_Return_some (raw_key (x := x) (m := bindL (envOfC qual scope s.heap.objs.size f cdv).kindOf [(x, Value.ref t)] fun _ => none) S.kind hx hd hn ?_ tt hu hv hs fun tk => ?_))
  · simp only [bindL]
    rw [if_pos (show (envOfC qual scope s.heap.objs.size f cdv).kindOf x = some .local from hx)]
    exact if_pos rfl
  · exact ⟨_, tk, rfl, fun b o q => Heap.get?_push_of_some _ (keep b o q), reads_pair⟩
end Tf

/-! Dicts whose keys are pairs of numbers, as data; the own dict that is being made; comprehensions of them. -/
namespace Tf
open PySem PySem.Spec PyProof.Rows L2 Dt
/-- a dict with pairs of numbers as keys -/
structure Dc (ν : Type) where
  l : List ((Int × Int) × ν)
instance {ν : Type} [Dt ν] : Dt (Dc ν) := ⟨fun D => .dict (D.l.map fun p => (d p.1, d p.2))⟩
abbrev Pt := Int × Int
def kk (p : Pt) : List Key := [.inl p.1, .inl p.2]
theorem keyD_kk (p : Pt) : keyD (kk p) = d p := rfl
theorem keyD_inv {k : List Key} {p : Pt} (h : keyD k = d p) : k = kk p := by
  obtain ⟨a, b⟩ := p
  have h' : keyD k = PyData.tuple [.int a, .int b] := h
  unfold keyD at h'
  injection h' with h1
  match k, h1 with
  | [], h1 => simp at h1
  | [_], h1 => simp at h1
  | x :: y :: z :: r, h1 => simp at h1
  | [x, y], h1 =>
    rcases x with x | x <;> rcases y with y | y <;> simp at h1
    obtain ⟨rfl, rfl⟩ := h1
    rfl
theorem kk_inj {p q : Pt} (h : kk p = kk q) : p = q := by
  obtain ⟨a, b⟩ := p
  obtain ⟨c, e⟩ := q
  simp [kk] at h
  simp [h]
section
variable {ν : Type} [Dt ν] {F G H F0 H0 : Hp}
/-- the entries of a tracked dict, as data -/
inductive RvK (F : Hp) : List (List Key × V) → List (Pt × ν) → Prop
  | nil : RvK F [] []
  | cons {k : Pt} {u : V} {x : ν} {kvs : List (List Key × V)} {l : List (Pt × ν)} (one : Rv F u (d x)) (more : RvK F kvs l) : RvK F ((kk k, u) :: kvs) ((k, x) :: l)
theorem RvK.mono {kvs : List (List Key × V)} {l : List (Pt × ν)} (s : Same F G) (h : RvK F kvs l) : RvK G kvs l := by
  induction h with
  | nil => exact .nil
  | cons a r ih => exact .cons (a.mono s) ih
theorem RvK.length {kvs : List (List Key × V)} {l : List (Pt × ν)} (h : RvK F kvs l) : kvs.length = l.length := by
  induction h with
  | nil => rfl
  | cons a r ih => simp [ih]
theorem RvK.split {kvs : List (List Key × V)} {l : List (Pt × ν)} (h : RvK F kvs l) : ∃ us, kvs = (l.map fun p => kk p.1).zip us ∧ (l.map fun p => kk p.1).length = us.length ∧ RvL F us (l.map fun p => d p.2) := by
  induction h with
  | nil => exact ⟨[], rfl, rfl, .nil⟩
  | cons a r ih =>
    obtain ⟨us, h1, h2, h3⟩ := ih
    refine ⟨_ :: us, ?_, ?_, .cons a h3⟩
    · simp only [List.map_cons, List.zip_cons_cons]
      rw [h1]
    · simp only [List.map_cons, List.length_cons, h2]
theorem zip_map_map {α β γ : Type} (f : α → β) (g : α → γ) (l : List α) : (l.map f).zip (l.map g) = l.map fun x => (f x, g x) := by
  induction l with
  | nil => rfl
  | cons a r ih => simp [ih]
theorem RvK.rv {p : Addr} {kvs : List (List Key × V)} {D : Dc ν} (h : RvK F kvs D.l) (e : F p = some (.dT kvs)) : Rv F (.ref p) (d D) := by
  obtain ⟨us, h1, h2, h3⟩ := h.split
  rw [h1] at e
  have z := Rv.dic e h2 h3
  have q : ((D.l.map fun p => kk p.1).map keyD).zip (D.l.map fun p => d p.2) = D.l.map fun p => (d p.1, d p.2) := by
    rw [List.map_map, zip_map_map]
    rfl
  rw [q] at z
  exact z
theorem rvk_of : ∀ {l : List (Pt × ν)} {ks : List (List Key)} {us : List V} {es : List PyData}, ks.length = us.length → RvL F us es → (ks.map keyD).zip es = (l.map fun p => ((d p.1 : PyData), (d p.2 : PyData))) → RvK F (ks.zip us) l
  | [], [], us, es, hl, r, e => by
    cases us with
    | nil => exact .nil
    | cons => simp at hl
  | [], k :: ks, us, es, hl, r, e => by
    cases us with
    | nil => simp at hl
    | cons u us =>
      cases r
      simp at e
  | q :: l, [], us, es, hl, r, e => by simp at e
  | q :: l, k :: ks, us, es, hl, r, e => by
    cases us with
    | nil => simp at hl
    | cons u us =>
      cases r with
      | cons a r =>
        simp only [List.map_cons, List.zip_cons_cons, List.cons.injEq, Prod.mk.injEq] at e
        obtain ⟨⟨e1, e2⟩, e3⟩ := e
        have := keyD_inv e1
        subst this
        subst e2
        exact .cons a (rvk_of (by simpa using hl) r e3)
theorem rv_dc {v : V} {D : Dc ν} (h : Rv F v (d D)) : ∃ p kvs, v = .ref p ∧ F p = some (.dT kvs) ∧ RvK F kvs D.l := by
  have h' : Rv F v (.dict (D.l.map fun p => ((d p.1 : PyData), (d p.2 : PyData)))) := h
  generalize he : (D.l.map fun p => ((d p.1 : PyData), (d p.2 : PyData))) = es at h'
  cases h' with
  | emp a =>
    cases hl : D.l with
    | nil => rw [hl] at he; simp at he
    | cons q r =>
      rw [hl] at he
      simp only [List.map_cons, List.cons.injEq, Prod.mk.injEq] at he
      exact PyData.noConfusion he.1.1
  | dic a l r => exact ⟨_, _, rfl, a, rvk_of l r he.symm⟩
  | obj a l r =>
    cases hl : D.l with
    | nil => rw [hl] at he; simp at he
    | cons q r =>
      rw [hl] at he
      simp only [List.map_cons, List.cons.injEq, Prod.mk.injEq] at he
      exact PyData.noConfusion he.1.1
/-! ### what it holds -/
def Dc.get (D : Dc ν) (k : Pt) : Option ν := (D.l.find? fun q => decide (q.1 = k)).map (·.2)
def Dc.put (D : Dc ν) (k : Pt) (x : ν) : Dc ν := ⟨if (D.l.any fun q => decide (q.1 = k)) = true then D.l.map (fun q => if q.1 = k then (q.1, x) else q) else D.l ++ [(k, x)]⟩
theorem kk_iff {p q : Pt} : kk p = kk q ↔ p = q := ⟨kk_inj, fun h => by rw [h]⟩
theorem RvK.get {kvs : List (List Key × V)} {l : List (Pt × ν)} (h : RvK F kvs l) (k : Pt) : match (⟨l⟩ : Dc ν).get k with
    | some x => ∃ u, valV kvs (kk k) = some u ∧ Rv F u (d x)
    | none => valV kvs (kk k) = none := by
  induction h with
  | nil => rfl
  | @cons q u x kvs l a r ih =>
    by_cases e : q = k
    · have e1 : (⟨(q, x) :: l⟩ : Dc ν).get k = some x := by simp [Dc.get, e]
      rw [e1]
      exact ⟨u, valV_pos (by rw [e]), a⟩
    · have e1 : (⟨(q, x) :: l⟩ : Dc ν).get k = (⟨l⟩ : Dc ν).get k := by simp [Dc.get, List.find?_cons, e]
      have e2 : valV ((kk q, u) :: kvs) (kk k) = valV kvs (kk k) := valV_neg fun z => e (kk_inj z)
      rw [e1, e2]
      exact ih
theorem RvK.any {kvs : List (List Key × V)} {l : List (Pt × ν)} (h : RvK F kvs l) (k : Pt) : (kvs.any fun kv => decide (kv.1 = kk k)) = l.any fun q => decide (q.1 = k) := by
  induction h with
  | nil => rfl
  | cons a r ih => simp only [List.any_cons, ih, kk_iff]
theorem RvK.snoc {kvs : List (List Key × V)} {l : List (Pt × ν)} {k : Pt} {u : V} {x : ν} (h : RvK F kvs l) (r : Rv F u (d x)) : RvK F (kvs ++ [(kk k, u)]) (l ++ [(k, x)]) := by
  induction h with
  | nil => exact .cons r .nil
  | cons a _ ih => exact .cons a ih
theorem RvK.upd {kvs : List (List Key × V)} {l : List (Pt × ν)} {k : Pt} {u : V} {x : ν} (h : RvK F kvs l) (r : Rv F u (d x)) : RvK F (kvs.map fun kv => if kv.1 = kk k then (kv.1, u) else kv) (l.map fun q => if q.1 = k then (q.1, x) else q) := by
  induction h with
  | nil => exact .nil
  | @cons q w y kvs l a _ ih =>
    simp only [List.map_cons, kk_iff]
    by_cases e : q = k
    · rw [if_pos e, if_pos e]
      exact .cons r ih
    · rw [if_neg e, if_neg e]
      exact .cons a ih
theorem RvK.put {kvs : List (List Key × V)} {D : Dc ν} {k : Pt} {u : V} {x : ν} (h : RvK F kvs D.l) (r : Rv F u (d x)) : RvK F (putK kvs (kk k) u) (D.put k x).l := by
  unfold putK Dc.put
  rw [h.any k]
  by_cases e : (D.l.any fun q => decide (q.1 = k)) = true
  · rw [if_pos e]
    simp only [e, if_true]
    exact h.upd r
  · rw [if_neg e]
    simp only [if_neg e]
    exact h.snoc r
theorem Dc.put_len (D : Dc ν) (k : Pt) (x : ν) : (D.put k x).l.length ≤ D.l.length + 1 := by
  unfold Dc.put
  split <;> simp
/-- a tracked pair is a key -/
theorem rv_key {v : V} {k : Pt} (h : Rv F v (d k)) : ∃ b, v = .ref b ∧ F b = some (.tup ((kk k).map kV)) := by
  obtain ⟨p, u, w, rfl, a, r1, r2⟩ := rv_pair h
  cases rv_int r1
  cases rv_int r2
  exact ⟨p, rfl, a⟩
theorem dget_of {p : Addr} {kvs : List (List Key × V)} {D : Dc ν} {v : V} {k : Pt} (s : Sub F H) (h : RvK F kvs D.l) (e : H p = some (.dT kvs)) (r : Rv F v (d k)) : DGet H p v (valV kvs (kk k)) := by
  obtain ⟨b, rfl, hb⟩ := rv_key r
  exact DGet.t e (s _ _ hb).1
end
section
variable {T : List (Addr × Str)} {α β γ ν : Type} [Dt α] [Dt β] [Dt γ] [Dt ν] {σ : St} {F G F0 H0 H : Hp} {te ta tb tk tv : TE} {tt : TT} {K : PySem.W.Frag} {wi : TI} {g : TG} {E : Ends}
theorem ev_dIn {D : Dc ν} {k : Pt} (ha : Ev T ta σ F k) (hb : Ev T tb σ F D) : Ev T (tOr2 (tOp (rInU K) ta tb) (tDIn ta tb)) σ F (D.get k).isSome := fun H s t Q q =>
  .inr (ha H s t _ fun v F1 H1 st r => (hb.mono st.ff) H1 st.sub st.tab _ fun w F2 H2 st2 r2 => by
    obtain ⟨p, kvs, rfl, a, b⟩ := rv_dc r2
    refine ⟨p, _, rfl, dget_of st2.sub b (st2.sub _ _ a).1 (r.mono st2.ff), ?_⟩
    have e : (valV kvs (kk k)).isSome = (D.get k).isSome := by
      have z := b.get k
      revert z
      cases D.get k with
      | none => exact fun z => by rw [z]; rfl
      | some x => exact fun ⟨u, z, _⟩ => by rw [z]; rfl
    rw [e]
    exact q _ F2 H2 (st.trans st2) (.bl _))
theorem ev_dNotIn {D : Dc ν} {k : Pt} (ha : Ev T ta σ F k) (hb : Ev T tb σ F D) : Ev T (tOr2 (tOp (rNotInU K) ta tb) (tDNotIn ta tb)) σ F (!(D.get k).isSome) := fun H s t Q q =>
  .inr (ha H s t _ fun v F1 H1 st r => (hb.mono st.ff) H1 st.sub st.tab _ fun w F2 H2 st2 r2 => by
    obtain ⟨p, kvs, rfl, a, b⟩ := rv_dc r2
    refine ⟨p, _, rfl, dget_of st2.sub b (st2.sub _ _ a).1 (r.mono st2.ff), ?_⟩
    have e : (valV kvs (kk k)).isSome = (D.get k).isSome := by
      have z := b.get k
      revert z
      cases D.get k with
      | none => exact fun z => by rw [z]; rfl
      | some x => exact fun ⟨u, z, _⟩ => by rw [z]; rfl
    rw [e]
    exact q _ F2 H2 (st.trans st2) (.bl _))
theorem ev_dGet {D : Dc ν} {k : Pt} {x : ν} (ha : Ev T ta σ F D) (hb : Ev T tb σ F k) (h : D.get k = some x) : Ev T (tIxU K ta tb) σ F x := fun H s t Q q =>
  .inr (ha H s t _ fun v F1 H1 st r => (hb.mono st.ff) H1 st.sub st.tab _ fun w F2 H2 st2 r2 => by
    obtain ⟨p, kvs, rfl, a, b⟩ := rv_dc r
    have z := b.get k
    rw [show (⟨D.l⟩ : Dc ν).get k = some x from h] at z
    obtain ⟨u, z1, z2⟩ := z
    have g := dget_of st2.sub (b.mono st2.ff) (st2.sub _ _ (st2.ff _ _ a)).1 r2
    rw [z1] at g
    exact ⟨p, u, rfl, g, q _ F2 H2 (st.trans st2) (z2.mono st2.ff)⟩)
theorem ev_dLen {D : Dc ν} (h : Ev T te σ F D) : Ev T (tCB (rLenU K) (tCons te tNil)) σ F (D.l.length : Int) :=
  ev_cb (ea_cons h ea_nil) fun vs F1 H1 Q _ s t r q => by
    obtain ⟨v, rfl, r1⟩ := rvl1 r
    obtain ⟨p, kvs, rfl, a, b⟩ := rv_dc r1
    refine .inr (.inr ⟨p, kvs, rfl, (s _ _ a).1, ?_⟩)
    rw [b.length]
    exact q _ F1 H1 (.refl s t) (.int _)
theorem isKeys_refs {bs : List Addr} {kvs : List (List Key × V)} (h : IsKeys H kvs bs) : ∀ b ∈ bs, ∃ k : List Key, H b = some (.tup (k.map kV)) := by
  unfold IsKeys at h
  induction h with
  | nil => exact fun b hb => nomatch hb
  | cons a r ih =>
      intro b hb
      rcases List.mem_cons.mp hb with z | z
      · subst z
        exact ⟨_, a⟩
      · exact ih b z
/-- the frame of the key tuples -/
def keyF (H : Hp) (bs : List Addr) : Hp := fun a => if a ∈ bs then H a else none
theorem keys_rv {bs : List Addr} {kvs : List (List Key × V)} {l : List (Pt × ν)} (h : IsKeys H kvs bs) (r : RvK F kvs l) : ∀ {G : Hp}, (∀ b ∈ bs, ∀ o, H b = some o → G b = some o) → RvL G (bs.map V.ref) (l.map fun q => d q.1) := by
  intro G hG
  unfold IsKeys at h
  induction h generalizing l with
  | nil =>
    cases r
    exact .nil
  | cons a _ ih =>
    cases r with
    | @cons k u x kvs l o m =>
      refine .cons ?_ (ih m fun b hb o e => hG b (List.mem_cons_of_mem _ hb) o e)
      exact Rv.tup (us := [.int k.1, .int k.2]) (hG _ List.mem_cons_self _ a) (.cons (.int _) (.cons (.int _) .nil))
/-- list(dict): its keys -/
theorem ev_dKeys {D : Dc ν} (h : Ev T te σ F D) : Ev T (tCB (rListU K) (tCons te tNil)) σ F (D.l.map (·.1)) :=
  ev_cb (ea_cons h ea_nil) fun vs F1 H1 Q _ s t r q => by
    obtain ⟨v, rfl, r1⟩ := rvl1 r
    obtain ⟨p, kvs, rfl, a, b⟩ := rv_dc r1
    refine .inr ⟨p, kvs, rfl, .inl (s _ _ a).1, fun l bs hl hk => ?_⟩
    have hall := isKeys_refs hk
    have sk : Sub (keyF H1 bs) H1 := fun a o e => by
      unfold keyF at e
      split at e
      · rename_i z
        obtain ⟨k, hk⟩ := hall a z
        rw [hk] at e
        cases e
        exact ⟨hk, nt_tup⟩
      · cases e
    have sj : Sub (join F1 (keyF H1 bs)) H1 := join_sub s sk
    have st := Step.made (o := .lst (bs.map V.ref)) sj t hl nt_lst
    have step : Step T F1 (upd (join F1 (keyF H1 bs)) l (.lst (bs.map V.ref))) H1 (upd H1 l (.lst (bs.map V.ref))) := by
      refine ⟨join_l.trans st.ff, st.sub, st.ext, fun a h1 h2 => st.new a ?_ h2, st.tab⟩
      unfold join keyF
      rw [h1]
      by_cases z : a ∈ bs
      · obtain ⟨k, hk⟩ := hall a z
        obtain ⟨o, e, n, _⟩ := h2
        rw [hk] at e
        cases e
        exact absurd rfl (n _)
      · exact if_neg z
    refine q _ _ _ step (.lst upd_same ?_)
    rw [List.map_map]
    exact keys_rv hk b fun b hb o e => by
      have nb : b ≠ l := fun z => by rw [z, hl] at e; cases e
      rw [upd_ne nb]
      exact join_r s.same sk.same _ _ (by unfold keyF; rw [if_pos hb]; exact e)
end
end Tf

/-! The own dict; comprehensions of dicts; sorted pairs. -/
namespace Tf
open PySem PySem.Spec PyProof.Rows L2 Dt
section
variable {T : List (Addr × Str)} {α β γ ν : Type} [Dt α] [Dt β] [Dt γ] [Dt ν] {σ : St} {F G F0 H0 H : Hp} {te ta tb tk tv : TE} {tt : TT} {K : PySem.W.Frag} {wi wi1 : TI} {g g1 : TG} {E : Ends}
/-- at p a dict of the data D, which nobody else holds -/
def OwnD (F H : Hp) (p : Addr) (D : Dc ν) : Prop := F p = none ∧ ∃ kvs, H p = some (.dT kvs) ∧ RvK F kvs D.l
theorem OwnD.step {p : Addr} {D : Dc ν} {F1 H1 : Hp} (o : OwnD F H p D) (s : Step T F F1 H H1) : OwnD F1 H1 p D := by
  obtain ⟨h1, us, h2, h3⟩ := o
  exact ⟨s.new p h1 (wr_dT h2), us, s.ext.keep p _ h2 nt_dT, h3.mono s.ff⟩
theorem OwnD.other {p q : Addr} {D : Dc ν} {o : HO} (w : OwnD F H p D) (n : p ≠ q) : OwnD F (upd H q o) p D := by
  obtain ⟨h1, us, h2, h3⟩ := w
  exact ⟨h1, us, by rw [upd_ne n]; exact h2, h3⟩
theorem same_upd {p : Addr} {o : HO} (h : F p = none) : Same F (upd F p o) := fun a u e => by
  rw [upd_ne (ne_of_none e h)]
  exact e
theorem sub_upd {p : Addr} {o : HO} (s : Sub F H) (h : H p = some o) (n : notTbl o) : Sub (upd F p o) H := fun a u e => by
  by_cases z : a = p
  · subst z
    rw [upd_same] at e
    cases e
    exact ⟨h, n⟩
  · rw [upd_ne z] at e
    exact s a u e
theorem OwnD.seen {p : Addr} {D : Dc ν} (o : OwnD F H p D) (s : Sub F H) : ∃ F', Same F F' ∧ Sub F' H ∧ Rv F' (.ref p) (d D) := by
  obtain ⟨h1, us, h2, h3⟩ := o
  exact ⟨upd F p (.dT us), same_upd h1, sub_upd s h2 nt_dT, (h3.mono (same_upd h1)).rv upd_same⟩
theorem OwnD.out {p : Addr} {D : Dc ν} (o : OwnD F H p D) (st : Step T F0 F H0 H) (n : H0 p = none) : ∃ F', Same F F' ∧ Step T F0 F' H0 H ∧ Rv F' (.ref p) (d D) := by
  obtain ⟨h1, us, h2, h3⟩ := o
  have ff := same_upd (o := .dT us) h1
  refine ⟨upd F p (.dT us), ff, ⟨st.ff.trans ff, sub_upd st.sub h2 nt_dT, st.ext, fun a e1 e2 => ?_, st.tab⟩, (h3.mono ff).rv upd_same⟩
  have z : a ≠ p := fun z => e2.some (by rw [z]; exact n)
  rw [upd_ne z]
  exact st.new a e1 e2
/-- a test that reads it -/
theorem s_ifOD {tu tw : TS} {p : Addr} {D : Dc ν} {b : Bool} (o : OwnD F H p D) (h : ∀ G, Same F G → Rv G (.ref p) (d D) → EvT T tt σ G b) (st : Step T F0 F H0 H)
    (h1 : b = true → ∀ H', Step T F F H H' → Step T F0 F H0 H' → tu E σ H') (h2 : b = false → ∀ H', Step T F F H H' → Step T F0 F H0 H' → tw E σ H') : tIfS tt tu tw E σ H := by
  obtain ⟨G, l, s', r⟩ := o.seen st.sub
  refine h G l r H s' st.tab _ fun H' s => ?_
  have sn := s.narrow l
  cases b with
  | true => exact h1 rfl H' sn (st.trans sn)
  | false => exact h2 rfl H' sn (st.trans sn)
/-- an entry is put -/
theorem OwnD.put {p : Addr} {D : Dc ν} {k : Pt} {x : ν} {y v : V} (o : OwnD F H p D) (s : Sub F H) (ry : Rv F y (d k)) (rv : Rv F v (d x)) (hz : D.l.length < 100000) :
    ∃ H', DPut H p y v H' ∧ OwnD F H' p (D.put k x) ∧ ∃ u, H p = some (.dT u) ∧ ∃ u', H' = upd H p (.dT u') := by
  obtain ⟨h1, kvs, h2, h3⟩ := o
  obtain ⟨b, rfl, hb⟩ := rv_key ry
  have l := h3.length
  refine ⟨_, DPut.t h2 (s _ _ hb).1 (Nat.lt_of_lt_of_le (by omega : kvs.length < 100000) (by decide)), ⟨h1, _, upd_same, h3.put rv⟩, kvs, h2, _, rfl⟩
/-- d[k] = v -/
theorem s_dput {i : Nat} {p : Addr} {D : Dc ν} {k : Pt} {x : ν} (hi : σ[i]? = some (some (.ref p))) (o : OwnD F H p D) (hk : Ev T tk σ F k) (hx : Ev T tv σ F x) (st : Step T F0 F H0 H) (n : H0 p = none) (hz : D.l.length < 100000)
    (c : ∀ F' H', Same F F' → Step T F0 F' H0 H' → OwnD F' H' p (D.put k x) → (∀ b o, b ≠ p → notTbl o → H b = some o → H' b = some o) → (∀ b, F b = none → Wr H b → F' b = none) → E.nx σ H') :
    sDPut (tVar i) tk tv E σ H :=
  hx H st.sub st.tab _ fun v F1 H1 s1 r1 => ⟨_, hi, (hk.mono s1.ff) H1 s1.sub s1.tab _ fun y F2 H2 s2 r2 => by
    have o2 := (o.step s1).step s2
    obtain ⟨H3, put, o3, u, hu, u', rfl⟩ := o2.put s2.sub r2 (r1.mono s2.ff) hz
    refine ⟨p, _, rfl, put, c F2 _ (s1.ff.trans s2.ff) (((st.trans s1).trans s2).mut o2.1 n hu nt_dT fun φ z => nomatch z) o3 (fun b o hb nt e => ?_) fun b h5 h6 => ?_⟩
    · rw [upd_ne hb]
      exact s2.ext.keep b o (s1.ext.keep b o e nt) nt
    · exact (s1.trans s2).new b h5 h6⟩
/-! ### comprehensions -/
/-- an owned thing: O tells what it holds, sz how much -/
structure Hold (T : List (Addr × Str)) (τ : Type) where
  O : Hp → Hp → τ → Prop
  sz : τ → Nat
  step : ∀ {F H F1 H1 : Hp} {a : τ}, O F H a → Step T F F1 H H1 → O F1 H1 a
def holdD (T : List (Addr × Str)) (ν : Type) [Dt ν] (D : Addr) : Hold T (Dc ν) := ⟨fun F H a => OwnD F H D a, fun a => a.l.length, fun o s => o.step s⟩
def holdL (T : List (Addr × Str)) (α : Type) [Dt α] (D : Addr) : Hold T (List α) := ⟨fun F H a => Own F H D a, fun a => a.length, fun o s => o.step s⟩
section
variable {τ : Type}
/-- the work B takes the held thing from a to f a, and puts at most m items -/
def BodyOk (B : (Hp → Prop) → St → Hp → Prop) (O : Hold T τ) (F0 H0 : Hp) (σ : St) (F : Hp) (m : Nat) (f : τ → τ) : Prop :=
  ∀ F1 H acc, Same F F1 → Step T F0 F1 H0 H → O.O F1 H acc → O.sz acc + m ≤ 100000 → ∀ Nx : Hp → Prop, (∀ F' H', Same F1 F' → Step T F0 F' H0 H' → O.O F' H' (f acc) → Nx H') → B Nx σ H
theorem body_put {D : Addr} {k : Pt} {x : ν} (n : H0 D = none) (hk : Ev T tk σ F k) (hx : Ev T tv σ F x) : BodyOk (bPut tk tv D) (holdD T ν D) F0 H0 σ F 1 fun a => a.put k x := fun F1 H acc l st o hz Nx nx =>
  (hk.mono l) H st.sub st.tab _ fun y F2 H2 s2 r2 => ((hx.mono l).mono s2.ff) H2 s2.sub s2.tab _ fun v F3 H3 s3 r3 => by
    have o3 := (OwnD.step o s2).step s3
    have hz' : acc.l.length + 1 ≤ 100000 := hz
    obtain ⟨H4, put, o4, u, hu, u', rfl⟩ := o3.put s3.sub (r2.mono s3.ff) r3 (by omega)
    exact ⟨_, put, nx F3 _ (s2.ff.trans s3.ff) (((st.trans s2).trans s3).mut o3.1 n hu nt_dT fun φ z => nomatch z) o4⟩
/-- xs.append(e), the work of a list's comprehension -/
def bApp (te : TE) (D : Addr) : (Hp → Prop) → St → Hp → Prop := fun Nx σ H => te σ H fun y H4 => ∃ acc, H4 D = some (.lst acc) ∧ acc.length < sizeLine ∧ Nx (upd H4 D (.lst (acc ++ [y])))
theorem body_app {D : Addr} {x : α} (n : H0 D = none) (hx : Ev T te σ F x) : BodyOk (bApp te D) (holdL T α D) F0 H0 σ F 1 fun a => a ++ [x] := fun F1 H acc l st o hz Nx nx =>
  (hx.mono l) H st.sub st.tab _ fun y F2 H2 s2 r2 => by
    obtain ⟨h1, us, h2, h3⟩ := Own.step o s2
    have hz' : acc.length + 1 ≤ 100000 := hz
    have l := h3.length
    rw [List.length_map] at l
    refine ⟨us, h2, Nat.lt_of_lt_of_le (by omega : us.length < 100000) (by decide), nx F2 _ s2.ff ((st.trans s2).mut h1 n h2 nt_lst fun φ z => nomatch z) ⟨h1, _, upd_same, ?_⟩⟩
    rw [List.map_append]
    exact rvl_snoc h3 r2
theorem foldl_len {f : τ → α → τ} {z : τ → Nat} {m : Nat} : ∀ (xs : List α) (h : ∀ a, ∀ x ∈ xs, z (f a x) ≤ z a + m) (a : τ), z (xs.foldl f a) ≤ z a + xs.length * m
  | [], _, a => by simp
  | x :: xs, h, a => by
    have h1 := foldl_len xs (fun a y hy => h a y (List.mem_cons_of_mem _ hy)) (f a x)
    have h2 := h a x List.mem_cons_self
    rw [List.foldl_cons, List.length_cons, Nat.succ_mul]
    omega
/-- the loop of a clause -/
theorem lp_run {J : It} {vs : List Nat} {B : (Hp → Prop) → St → Hp → Prop} {Stop : Hp → Prop} {O : Hold T τ} {xs : List α} {p : α → Bool} {m : Nat} {f : α → τ → τ} {acc : τ} (w : Walk T J F (xs.map d)) (st : Step T F0 F H0 H) (od : O.O F H acc)
    (fl : ∀ x ∈ xs, ∀ a, O.sz (f x a) ≤ O.sz a + m) (hz : O.sz acc + xs.length * m ≤ 100000)
    (each : ∀ F1 x v, Same F F1 → x ∈ xs → Rv F1 v (d x) → ∃ σ', EvG g v (wipe σ vs) F1 σ' ∧ wipe σ' vs = wipe σ vs ∧ EvT T tt σ' F1 (p x) ∧ (p x = true → BodyOk B O F0 H0 σ' F1 m (f x)))
    (stop : ∀ F' H', Same F F' → Step T F0 F' H0 H' → O.O F' H' ((xs.filter p).foldl (fun a x => f x a) acc) → Stop H') : lpRead J g tt vs σ B Stop H := by
  have zl : (xs.map d).length = xs.length := List.length_map ..
  refine ⟨fun i k H' => k = xs.length - i ∧ i ≤ xs.length ∧ ∃ F', Same F F' ∧ Step T F0 F' H0 H' ∧ O.O F' H' (((xs.take i).filter p).foldl (fun a x => f x a) acc), ⟨xs.length, by simp, Nat.zero_le _, F, Same.refl _, st, by simpa using od⟩, ?_⟩
  rintro i k H' ⟨rfl, hi, F', l, st', o⟩
  by_cases hlt : i < xs.length
  · refine .inr ⟨(w.mono l).go i H' st'.sub (by omega), fun H2 => i + 1 ≤ xs.length ∧ ∃ F', Same F F' ∧ Step T F0 F' H0 H2 ∧ O.O F' H2 (((xs.take (i + 1)).filter p).foldl (fun a x => f x a) acc), fun H2 ⟨h1, h2⟩ => ⟨xs.length - (i + 1), by omega, rfl, h1, h2⟩, fun v H2 y => ?_⟩
    obtain ⟨e, F2, he, s2, rv⟩ := (w.mono l).yld i H' v H2 st'.sub st'.tab (by omega) y
    have hx : xs[i]? = some xs[i] := List.getElem?_eq_getElem hlt
    rw [List.getElem?_map, hx] at he
    cases he
    obtain ⟨σ', hg, hw, ht, hb⟩ := each F2 xs[i] v (l.trans s2.ff) (List.getElem_mem hlt) rv
    refine hg H2 s2.sub _ ⟨hw, ht H2 s2.sub s2.tab _ fun H3 s3 => ?_⟩
    have o3 := O.step (O.step o s2) s3
    cases hp : p xs[i] with
    | true =>
      rw [if_pos rfl]
      refine hb hp F2 H3 _ (Same.refl _) ((st'.trans s2).trans s3) o3 ?_ _ fun F4 H4 l4 s4 o4 => ⟨hlt, F4, l.trans (s2.ff.trans l4), s4, ?_⟩
      · have h1 := foldl_len (f := fun a x => f x a) (z := O.sz) (m := m) ((xs.take i).filter p) (fun a x hx => fl x (List.mem_of_mem_take (List.mem_filter.mp hx).1) a) acc
        have h2 := List.length_filter_le p (xs.take i)
        rw [List.length_take] at h2
        have h3 : ((xs.take i).filter p).length + 1 ≤ xs.length := by omega
        have h4 := Nat.mul_le_mul_right m h3
        rw [Nat.add_mul, Nat.one_mul] at h4
        omega
      · rw [take_snoc hx, List.filter_append, List.foldl_append, List.filter_cons, if_pos hp]
        exact o4
    | false =>
      rw [if_neg (by decide)]
      refine ⟨hlt, F2, l.trans s2.ff, (st'.trans s2).trans s3, ?_⟩
      rw [take_snoc hx, List.filter_append, List.foldl_append, List.filter_cons, if_neg (by rw [hp]; decide)]
      exact o3
  · have ei : i = xs.length := by omega
    subst ei
    have hs := (w.mono l).stop H' st'.sub
    rw [zl] at hs
    rw [List.take_length] at o
    exact .inl ⟨hs, stop F' H' l st' o⟩
theorem body_in {B : (Hp → Prop) → St → Hp → Prop} {vs1 : List Nat} {O : Hold T τ} {xs : List α} {p : α → Bool} {m N : Nat} {f : α → τ → τ} (h : EvI T wi1 σ F (xs.map d)) (hN : xs.length * m ≤ N) (fl : ∀ x ∈ xs, ∀ a, O.sz (f x a) ≤ O.sz a + m)
    (each : ∀ F1 x v, Same F F1 → x ∈ xs → Rv F1 v (d x) → ∃ σ', EvG g1 v (wipe σ vs1) F1 σ' ∧ wipe σ' vs1 = wipe σ vs1 ∧ EvT T tt σ' F1 (p x) ∧ (p x = true → BodyOk B O F0 H0 σ' F1 m (f x))) :
    BodyOk (bIn wi1 g1 tt vs1 B) O F0 H0 σ F N fun a => (xs.filter p).foldl (fun a x => f x a) a := fun F1 H acc l st o hz Nx nx =>
  (h.mono l) H st.sub st.tab _ fun J F2 H2 s2 w => lp_run (p := p) (f := f) (m := m) w (st.trans s2) (O.step o s2) fl (by omega) (fun F3 x v l3 hx r => each F3 x v ((l.trans s2.ff).trans l3) hx r) fun F' H' l' st' o' => nx F' H' (s2.ff.trans l') st' o'
end
theorem owned_new {D : Addr} (s : Sub F H) (t : LamX.Tabs T H) (hD : H D = none) : Step T F F H (upd H D (.dT [])) ∧ OwnD F (upd H D (.dT [])) D (⟨[]⟩ : Dc ν) :=
  ⟨⟨Same.refl _, s.mut (s.free hD), Ext.new hD, fun _ h _ => h, tabs_new t hD⟩, s.free hD, [], upd_same, .nil⟩
theorem owned_newL {D : Addr} (s : Sub F H) (t : LamX.Tabs T H) (hD : H D = none) : Step T F F H (upd H D (.lst [])) ∧ Own F (upd H D (.lst [])) D ([] : List α) :=
  ⟨⟨Same.refl _, s.mut (s.free hD), Ext.new hD, fun _ h _ => h, tabs_new t hD⟩, s.free hD, [], upd_same, .nil⟩
/-- {k: v for target in items if p} -/
theorem ev_dcT {vs : List Nat} {xs : List α} {p : α → Bool} {fk : α → Pt} {fv : α → ν} (h : EvI T wi σ F (xs.map d)) (hz : xs.length ≤ 100000)
    (each : ∀ F1 x v, Same F F1 → x ∈ xs → Rv F1 v (d x) → ∃ σ', EvG g v (wipe σ vs) F1 σ' ∧ wipe σ' vs = wipe σ vs ∧ EvT T tt σ' F1 (p x) ∧ (p x = true → Ev T tk σ' F1 (fk x) ∧ Ev T tv σ' F1 (fv x))) :
    Ev T (tDcT wi g tt tk tv vs) σ F ((xs.filter p).foldl (fun a x => a.put (fk x) (fv x)) (⟨[]⟩ : Dc ν)) := fun H s t Q q => h H s t _ fun J F1 H1 st w D hD => by
  obtain ⟨sn, on⟩ := owned_new (ν := ν) st.sub st.tab hD
  refine lp_run (O := holdD T ν D) (p := p) (F0 := F1) (H0 := H1) (f := fun x a => a.put (fk x) (fv x)) (m := 1) w sn on (fun x _ a => Dc.put_len _ _ _) (by show 0 + _ ≤ _; omega) (fun F2 x v l hx r => ?_) fun F' H' l st' o => ?_
  · obtain ⟨σ', h1, h2, h3, h4⟩ := each F2 x v (st.ff.trans l) hx r
    exact ⟨σ', h1, h2, h3, fun hp => body_put hD (h4 hp).1 (h4 hp).2⟩
  · obtain ⟨F3, l3, st3, r3⟩ := OwnD.out o st' hD
    exact q _ F3 H' (st.trans st3) r3
/-- {k: v for target in items if p for target1 in items1 if p1} -/
theorem ev_dcT2 {tt1 : TT} {vs vs1 : List Nat} {xs : List α} {ys : α → List β} {p : α → Bool} {p1 : α → β → Bool} {fk : α → β → Pt} {fv : α → β → ν} {m : Nat} (h : EvI T wi σ F (xs.map d)) (hm : ∀ x ∈ xs, (ys x).length ≤ m) (hz : xs.length * m ≤ 100000)
    (each : ∀ F1 x v, Same F F1 → x ∈ xs → Rv F1 v (d x) → ∃ σ', EvG g v (wipe σ vs) F1 σ' ∧ wipe σ' vs = wipe σ vs ∧ EvT T tt σ' F1 (p x) ∧ (p x = true → EvI T wi1 σ' F1 ((ys x).map d) ∧
      ∀ F2 y u, Same F1 F2 → y ∈ ys x → Rv F2 u (d y) → ∃ σ2, EvG g1 u (wipe σ' vs1) F2 σ2 ∧ wipe σ2 vs1 = wipe σ' vs1 ∧ EvT T tt1 σ2 F2 (p1 x y) ∧ (p1 x y = true → Ev T tk σ2 F2 (fk x y) ∧ Ev T tv σ2 F2 (fv x y)))) :
    Ev T (tDcT2 wi g tt wi1 g1 tt1 tk tv vs vs1) σ F ((xs.filter p).foldl (fun a x => ((ys x).filter (p1 x)).foldl (fun a y => a.put (fk x y) (fv x y)) a) (⟨[]⟩ : Dc ν)) := fun H s t Q q => h H s t _ fun J F1 H1 st w D hD => by
  obtain ⟨sn, on⟩ := owned_new (ν := ν) st.sub st.tab hD
  refine lp_run (O := holdD T ν D) (p := p) (F0 := F1) (H0 := H1) (f := fun x a => ((ys x).filter (p1 x)).foldl (fun a y => a.put (fk x y) (fv x y)) a) (m := m) w sn on (fun x hx a => ?_) (by show 0 + _ ≤ _; omega) (fun F2 x v l hx r => ?_) fun F' H' l st' o => ?_
  · have h1 := foldl_len (z := (holdD T ν D).sz) (f := fun (a : Dc ν) (y : β) => a.put (fk x y) (fv x y)) (m := 1) ((ys x).filter (p1 x)) (fun a x _ => Dc.put_len _ _ _) a
    have h2 := List.length_filter_le (p1 x) (ys x)
    have h3 := hm x hx
    exact Nat.le_trans h1 (by omega)
  · obtain ⟨σ', h1, h2, h3, h4⟩ := each F2 x v (st.ff.trans l) hx r
    refine ⟨σ', h1, h2, h3, fun hp => ?_⟩
    obtain ⟨h5, h6⟩ := h4 hp
    refine body_in (O := holdD T ν D) (p := p1 x) (m := 1) (f := fun y (a : Dc ν) => a.put (fk x y) (fv x y)) h5 (by have := hm x hx; omega) (fun y _ a => Dc.put_len _ _ _) fun F3 y u l3 hy r3 => ?_
    obtain ⟨σ2, k1, k2, k3, k4⟩ := h6 F3 y u l3 hy r3
    exact ⟨σ2, k1, k2, k3, fun hp => body_put hD (k4 hp).1 (k4 hp).2⟩
  · obtain ⟨F3, l3, st3, r3⟩ := OwnD.out o st' hD
    exact q _ F3 H' (st.trans st3) r3
theorem snoc_fold {f : β → γ} : ∀ (ys : List β) (a : List γ), ys.foldl (fun a y => a ++ [f y]) a = a ++ ys.map f
  | [], a => by simp
  | y :: ys, a => by rw [List.foldl_cons, snoc_fold ys]; simp
theorem flat_fold {f : α → List γ} : ∀ (xs : List α) (a : List γ), xs.foldl (fun a x => a ++ f x) a = a ++ xs.flatMap f
  | [], a => by simp
  | y :: ys, a => by rw [List.foldl_cons, flat_fold ys]; simp
/-- [e for target in items if p for target1 in items1 if p1] -/
theorem ev_lc2N {tt1 : TT} {vs vs1 : List Nat} {xs : List α} {ys : α → List β} {p : α → Bool} {p1 : α → β → Bool} {f : α → β → γ} {m : Nat} (h : EvI T wi σ F (xs.map d)) (hm : ∀ x ∈ xs, (ys x).length ≤ m) (hz : xs.length * m ≤ 100000)
    (each : ∀ F1 x v, Same F F1 → x ∈ xs → Rv F1 v (d x) → ∃ σ', EvG g v (wipe σ vs) F1 σ' ∧ wipe σ' vs = wipe σ vs ∧ EvT T tt σ' F1 (p x) ∧ (p x = true → EvI T wi1 σ' F1 ((ys x).map d) ∧
      ∀ F2 y u, Same F1 F2 → y ∈ ys x → Rv F2 u (d y) → ∃ σ2, EvG g1 u (wipe σ' vs1) F2 σ2 ∧ wipe σ2 vs1 = wipe σ' vs1 ∧ EvT T tt1 σ2 F2 (p1 x y) ∧ (p1 x y = true → Ev T te σ2 F2 (f x y)))) :
    EvN T (tLc2 wi g tt wi1 g1 tt1 te vs vs1) σ F ((xs.filter p).flatMap fun x => ((ys x).filter (p1 x)).map (f x)) := fun H s t Q q => h H s t _ fun J F1 H1 st w D hD => by
  obtain ⟨sn, on⟩ := owned_newL (α := γ) st.sub st.tab hD
  refine lp_run (B := bIn wi1 g1 tt1 vs1 (bApp te D)) (O := holdL T γ D) (p := p) (F0 := F1) (H0 := H1) (f := fun x a => ((ys x).filter (p1 x)).foldl (fun a y => a ++ [f x y]) a) (m := m) w sn on (fun x hx a => ?_) (by show 0 + _ ≤ _; omega) (fun F2 x v l hx r => ?_) fun F' H' l st' o => ?_
  · have h1 := foldl_len (z := (holdL T γ D).sz) (f := fun (a : List γ) (y : β) => a ++ [f x y]) (m := 1) ((ys x).filter (p1 x)) (fun a x _ => by show (a ++ [_]).length ≤ a.length + 1; simp) a
    have h2 := List.length_filter_le (p1 x) (ys x)
    have h3 := hm x hx
    exact Nat.le_trans h1 (by omega)
  · obtain ⟨σ', h1, h2, h3, h4⟩ := each F2 x v (st.ff.trans l) hx r
    refine ⟨σ', h1, h2, h3, fun hp => ?_⟩
    obtain ⟨h5, h6⟩ := h4 hp
    refine body_in (O := holdL T γ D) (p := p1 x) (m := 1) (f := fun y (a : List γ) => a ++ [f x y]) h5 (by have := hm x hx; omega) (fun y _ a => by show (a ++ [_]).length ≤ a.length + 1; simp) fun F3 y u l3 hy r3 => ?_
    obtain ⟨σ2, k1, k2, k3, k4⟩ := h6 F3 y u l3 hy r3
    exact ⟨σ2, k1, k2, k3, fun hp => body_app hD (k4 hp)⟩
  · obtain ⟨F3, l3, st3, r3⟩ := Own.out o st' hD
    refine q _ F3 H' (st.trans st3) ?_ fun p e => by cases e; exact st.ext.live _ hD
    have e : (xs.filter p).foldl (fun a x => ((ys x).filter (p1 x)).foldl (fun a y => a ++ [f x y]) a) ([] : List γ) = (xs.filter p).flatMap fun x => ((ys x).filter (p1 x)).map (f x) := by
      simp only [snoc_fold]
      rw [flat_fold]
      rfl
    rw [← e]
    exact r3
theorem ev_lc2 {tt1 : TT} {vs vs1 : List Nat} {xs : List α} {ys : α → List β} {p : α → Bool} {p1 : α → β → Bool} {f : α → β → γ} {m : Nat} (h : EvI T wi σ F (xs.map d)) (hm : ∀ x ∈ xs, (ys x).length ≤ m) (hz : xs.length * m ≤ 100000)
    (each : ∀ F1 x v, Same F F1 → x ∈ xs → Rv F1 v (d x) → ∃ σ', EvG g v (wipe σ vs) F1 σ' ∧ wipe σ' vs = wipe σ vs ∧ EvT T tt σ' F1 (p x) ∧ (p x = true → EvI T wi1 σ' F1 ((ys x).map d) ∧
      ∀ F2 y u, Same F1 F2 → y ∈ ys x → Rv F2 u (d y) → ∃ σ2, EvG g1 u (wipe σ' vs1) F2 σ2 ∧ wipe σ2 vs1 = wipe σ' vs1 ∧ EvT T tt1 σ2 F2 (p1 x y) ∧ (p1 x y = true → Ev T te σ2 F2 (f x y)))) :
    Ev T (tLc2 wi g tt wi1 g1 tt1 te vs vs1) σ F ((xs.filter p).flatMap fun x => ((ys x).filter (p1 x)).map (f x)) := (ev_lc2N h hm hz each).ev
/-! ### sorted pairs -/
/-- from the top, then from the left -/
def yx (p q : Pt) : Bool := decide (p.2 < q.2 ∨ (p.2 = q.2 ∧ p.1 ≤ q.1))
def ptOf (H : Hp) (u : V) : Pt := ((keyAt H u).2, (keyAt H u).1)
theorem rvl_pts {F H : Hp} (s : Sub F H) : ∀ {us : List V} {ps : List Pt}, RvL F us (ps.map d) → us.map (ptOf H) = ps ∧ ∀ u ∈ us, (∃ t i j, u = .ref t ∧ H t = some (.tup [.int i, .int j])) ∧ Rv F u (d (ptOf H u))
  | _, [], h => by
    cases h
    exact ⟨rfl, fun u z => nomatch z⟩
  | _, p :: ps, h => by
    cases h with
    | cons a r =>
      obtain ⟨h1, h2⟩ := rvl_pts s r
      obtain ⟨q, u, w, rfl, b, b1, b2⟩ := rv_pair a
      cases rv_int b1
      cases rv_int b2
      have e : ptOf H (.ref q) = p := by
        simp only [ptOf, keyAt, (s _ _ b).1]
      refine ⟨by simp only [List.map_cons, h1, e], fun u hu => ?_⟩
      rcases List.mem_cons.mp hu with z | z
      · subst z
        rw [e]
        exact ⟨⟨q, _, _, rfl, (s _ _ b).1⟩, a⟩
      · exact h2 u z
theorem rvl_of {F : Hp} {f : V → Pt} : ∀ {us : List V}, (∀ u ∈ us, Rv F u (d (f u))) → RvL F us ((us.map f).map d)
  | [], _ => .nil
  | u :: us, h => .cons (h u List.mem_cons_self) (rvl_of fun w hw => h w (List.mem_cons_of_mem _ hw))
theorem sorted_pts {F H : Hp} (s : Sub F H) {us : List V} {ps : List Pt} (r : RvL F us (ps.map d)) : RvL F (us.mergeSort (leK (keyAt H))) ((ps.mergeSort yx).map d) := by
  obtain ⟨h1, h2⟩ := rvl_pts s r
  have e : (us.mergeSort (leK (keyAt H))).map (ptOf H) = ps.mergeSort yx := by
    rw [← h1]
    exact List.map_mergeSort fun a _ b _ => rfl
  rw [← e]
  exact rvl_of fun u hu => (h2 u (List.mem_mergeSort.mp hu)).2
theorem ev_sortPN {ps : List Pt} (h : Ev T te σ F ps) : EvN T (tSortP T K (tCons te tNil)) σ F (ps.mergeSort yx) := fun H s t Q q =>
  ea_cons h ea_nil H s t _ fun vs F1 H1 st r => by
    obtain ⟨v, rfl, r1⟩ := rvl1 r
    obtain ⟨p, us, rfl, a, b⟩ := rv_list r1
    refine ⟨st.tab, p, us, rfl, SqL.of (st.sub _ _ a).1, fun u hu => ((rvl_pts st.sub b).2 u hu).1, fun H2 x2 t2 l hl => ?_⟩
    have s2 : Step T F1 F1 H1 H2 := ⟨Same.refl _, st.sub.ext x2, x2, fun _ h _ => h, t2⟩
    have s3 := Step.made (o := .lst (us.mergeSort (leK (keyAt H1)))) s2.sub t2 hl nt_lst
    exact q _ _ _ ((st.trans s2).trans s3) (.lst upd_same ((sorted_pts st.sub b).mono s3.ff)) fun p e => by cases e; exact (st.trans s2).ext.live _ hl
theorem ev_sortP {ps : List Pt} (h : Ev T te σ F ps) : Ev T (tSortP T K (tCons te tNil)) σ F (ps.mergeSort yx) := (ev_sortPN h).ev
end
end Tf

/-! Within an except suite: list comprehensions, isinstance of what is handled. -/
namespace Tf
open PySem PySem.Spec PyProof.Rows L2 Dt
/-- a block's context that bears the handled exception -/
abbrev hotB (X : Cx) (s : Shared) (H : Hp) (scope : Scope) (ce : Env) (fp : List Addr) (p : Addr × Obj) : Cx := { X.blk s H scope ce fp with pn := [p] }
def addTo (elt : Expr) (acc : Value) (env : Env) : Sem Unit := do
  let _ ← call (.builtin "list.append") [acc, ← eval elt env]
theorem turn_l1 {elt tg iter : Expr} {ifs : List Expr} {scope : Scope} {pos : Pos} {it acc : Value} {env : Env} :
    compTurn (.ListComp elt [⟨tg, iter, ifs, 0⟩] scope pos) 0 it acc env = turnForm iter.pos tg ifs (addTo elt acc env) (.ListComp elt [⟨tg, iter, ifs, 0⟩] scope pos) 0 it acc env := by rfl
section
variable {X : Cx} {pins : List (Addr × Obj)} {σ : St} {H : Hp} {s : Shared} {p : Addr × Obj} {s3 : Shared} {H3 : Hp} {scope : Scope} {ce : Env} {fp : List Addr}
theorem Inv.hot (I : Inv (X.blk s3 H3 scope ce fp) [] σ H s) (P : s.heap.get? p.1 = some p.2 ∧ H p.1 = none ∧ p.1 ≠ ce.locals ∧ p.1 ∉ frs X.stack ∧ ∀ v, p.2.data ≠ .cell v) : Inv (hotB X s3 H3 scope ce fp p) [] σ H s := by
  obtain ⟨ok, os, bare, base, loc, cell, free, freeC, pin, hok, len⟩ := I
  obtain ⟨o1, o2, o3, o4, o5, o6, o7, o8, o9, o10, o11, o12, o13, o14, o15, o16, o17, o18⟩ := ok
  refine ⟨⟨o1, o2, o3, o4, o5, o6, o7, o8, o9, o10, o11, o12, o13, o14, o15, o16, o17, o18⟩, os, bare, base, loc, cell, free, freeC, fun q hq => ?_, hok, len⟩
  have e : q = p := by simpa using (show q ∈ [p] ++ ([] : List (Addr × Obj)) from hq)
  subst e
  exact P
theorem Inv.unhot (I : Inv (hotB X s3 H3 scope ce fp p) [] σ H s) : Inv (X.blk s3 H3 scope ce fp) [] σ H s := by
  obtain ⟨ok, os, bare, base, loc, cell, free, freeC, pin, hok, len⟩ := I
  obtain ⟨o1, o2, o3, o4, o5, o6, o7, o8, o9, o10, o11, o12, o13, o14, o15, o16, o17, o18⟩ := ok
  exact ⟨⟨o1, o2, o3, o4, o5, o6, o7, o8, o9, o10, o11, o12, o13, o14, o15, o16, o17, o18⟩, os, bare, base, loc, cell, free, freeC, fun q hq => absurd (show q ∈ ([] : List (Addr × Obj)) ++ [] from hq) (by simp), hok, len⟩
end
section
variable {X : Cx}
/-- the element is evaluated and added -/
theorem add_run {ps : List (Addr × Obj)} {elt : Expr} {te : TE} {D : Addr} {Nx : Hp → Prop} {σ0 σ2 : St} {vs : List Nat} {H3 : Hp} {s3 : Shared} (hx : X.xe = fun _ _ => False) (pe : PE X elt te) (I : Inv X ps σ2 H3 s3) (hw : wipe σ2 vs = wipe σ0 vs) (b : bApp te D Nx σ2 H3) :
    wpAny (model X.prog X.w) X.A (addTo elt (.ref D) X.env) (fun _ s' => ∃ σ' H', Inv X ps σ' H' s' ∧ (wipe σ0 vs).length = σ'.length ∧ (∀ (j : Nat) v, (wipe σ0 vs)[j]? = some (some v) → σ'[j]? = some (some v)) ∧ Nx H') (fun _ _ => False) s3 := by
  unfold addTo
  refine wpAny_bind (wpAny_mono (pe.run ps s3 σ2 H3 _ I b) (fun v s4 z => ?_) fun _ _ z => by rw [hx] at z; exact z.elim)
  obtain ⟨y, H4, I4, ry, acc, hD, hz, nx⟩ := z
  refine wpAny_bind (app_ok I4 hD hz ry fun s5 I5 => wpAny_pure ?_)
  refine ⟨σ2, _, I5, ?_, fun j v q => ?_, nx⟩
  · rw [← hw, wipe_length]
  · rw [← hw] at q
    exact (wipe_some q).1
theorem pe_lcH {elt tg iter : Expr} {ifs : List Expr} {scope : Scope} {own : List (Str × Nat)} {pos : Pos} {wi : TI} {g : TG} {tt : TT} {te : TE} (hc : L2H.HotC X) (hN : X.N.Nodup) (hi : L2H.PIH X tg iter wi) (ok : BlkOk X.N X.env.scope scope own)
    (hg : ∀ (s : Shared) (H : Hp) (C : Addr) (cl : List (Str × Addr)) (fp : List Addr) (p : Addr × Obj), PG (hotB X s H scope (compEnvC scope cl C X.env) fp p) tg g) (ht : ∀ (s : Shared) (H : Hp) (C : Addr) (cl : List (Str × Addr)) (fp : List Addr) (p : Addr × Obj), PTs (hotB X s H scope (compEnvC scope cl C X.env) fp p) ifs tt)
    (he : ∀ (s : Shared) (H : Hp) (C : Addr) (cl : List (Str × Addr)) (fp : List Addr) (p : Addr × Obj), PE (hotB X s H scope (compEnvC scope cl C X.env) fp p) elt te) (hs : ∀ x, foldedSetIterable iter X.env x = pure x := by intro _; rfl) :
    PE X (.ListComp elt [⟨tg, iter, ifs, 0⟩] scope pos) (tLc wi g tt te (own.map (·.2))) := by
  obtain ⟨p, hot, hp⟩ := hc
  refine ⟨fun pins s σ H Q I h => ?_⟩
  have hfree : ∀ y ∈ scope.names, y.2 = .free → ∃ c, X.env.cells.lookup y.1 = some c := fun y hy q => by
    rcases ok.free y hy q with z | z
    · exact I.ok.has _ (.inl z)
    · exact I.ok.has _ (.inr z)
  rw [eval_ListComp]
  refine wpAny_comprehension_free (use := none) rfl hs (closure_ok hfree) ok.kind (fun y hy q => by rw [ok.uniq y hy, q]) (thn (hi.run pins s σ H _ I h) fun xv s1 hx => thn hx fun itv s2 h2 => ?_)
  obtain ⟨it, fp, tn, J, H2, rfl, I2, t, st2, f2, q⟩ := h2
  refine wpAny_newObj_type (newEnv_comp ?_) (by show 0 ≤ sizeLine; decide)
  have hDn : H2 s2.heap.objs.size = none := I2.hok.fresh (Nat.le_refl _)
  have kp : ∀ b o, s2.heap.get? b = some o → (s2.heap.push { cls := .type "list", data := .seq ([] : List Value).toArray }).get? b = some o := fun b o z => Heap.get?_push_of_some _ z
  have I3 : Inv X pins σ (upd H2 s2.heap.objs.size (.lst [])) { s2 with heap := s2.heap.push { cls := .type "list", data := .seq ([] : List Value).toArray } } :=
    I2.laid (t' := s2.toks) kp (Nat.le_refl _) ⟨Nat.zero_le _, [], 0, .nil, Heap.get?_push_size _ rfl⟩
  have sz : ∀ b ∈ fp, b < s2.heap.objs.size := fun b hb => by
    obtain ⟨o, z, _⟩ := t.obj _ _ st2 b hb
    exact Heap.lt_size z
  have f3 : ∀ b ∈ fp, FpOk X pins (upd H2 s2.heap.objs.size (.lst [])) b ∧ b < (s2.heap.push { cls := .type "list", data := .seq ([] : List Value).toArray }).objs.size := fun b hb => by
    have hlt := sz b hb
    refine ⟨⟨?_, (f2 b hb).2⟩, by rw [Heap.size_push]; exact Nat.lt_succ_of_lt hlt⟩
    rw [upd_ne (Nat.ne_of_lt hlt)]
    exact (f2 b hb).1
  have st3 : tn 0 (s2.heap.push { cls := .type "list", data := .seq ([] : List Value).toArray }) := t.keep _ _ _ st2 fun b _ o z => kp b o z
  have bg := begun_of hN ok I3 t.keep st3 f3
  obtain ⟨W, ⟨m0, w0⟩, turn⟩ := q _ hDn
  have P3 := I3.pin p (List.mem_append_left _ hp)
  have nst : p.1 ∉ frs X.stack := fun z => by
    rcases List.mem_cons.mp (I3.stkSub p.1 z) with z | z
    · exact P3.2.2.1 z
    · exact P3.2.2.2.1 z
  generalize hs3 : ({ s2 with heap := s2.heap.push { cls := .type "list", data := .seq ([] : List Value).toArray } } : Shared) = s3 at I3 bg P3 ⊢
  generalize hH3 : upd H2 s2.heap.objs.size (.lst []) = H3 at I3 bg P3 w0
  have I4 : Inv (hotB X s3 H3 scope (compEnvC scope (cellsFrom (s3.heap.objs.size + 1) scope.names (cloFrom X.env.cells scope.names [])) s3.heap.objs.size X.env) fp p) [] (wipe σ (own.map (·.2))) H3 _ := Inv.hot bg.inv ⟨bg.keep _ _ P3.1, P3.2.1, Nat.ne_of_lt (Heap.lt_size P3.1), nst, P3.2.2.2.2⟩
  have hotY : L2H.HotC (hotB X s3 H3 scope (compEnvC scope (cellsFrom (s3.heap.objs.size + 1) scope.names (cloFrom X.env.cells scope.names [])) s3.heap.objs.size X.env) fp p) := ⟨p, hot, List.mem_singleton.mpr rfl⟩
  have lp : codeAny (model X.prog X.w) X.A (.compLoop (.ListComp elt [⟨tg, iter, ifs, 0⟩] scope pos) 0 (.ref it) (.ref s2.heap.objs.size) (compEnvC scope (cellsFrom (s3.heap.objs.size + 1) scope.names (cloFrom X.env.cells scope.names [])) s3.heap.objs.size X.env)) (compPost (model X.prog X.w) X.A X.xe none (EP X pins σ Q) (.ref s2.heap.objs.size) s3.heap.objs.size) { s3 with heap := pushCells (s3.heap.push { cls := .type "dict", data := .dict #[] }) scope.names } := by
    refine blk_loop (X := hotB X s3 H3 scope _ fp p) (ps := []) (σ0 := σ) (Inner := addTo elt (.ref s2.heap.objs.size) _) rfl rfl turn_l1 (turnX_hot t rfl rfl rfl hotY) rfl (hg s3 H3 _ _ fp p) (ht s3 H3 _ _ fp p) W (fun H' => Q (.ref s2.heap.objs.size) H') (bApp te s2.heap.objs.size) turn ?_ ?_ ?_ I4 bg.st bg.free w0
    · intro Nx pl σ2 H4 s5 I5 hw b
      exact add_run (X := hotB X s3 H3 scope _ fp p) rfl (he s3 H3 _ _ fp p) I5 hw b
    · intro H' s' I' q
      obtain ⟨I7, m, hn, f0, f1, f2, f3, f4, f5⟩ := bg.leave _ _ _ (Inv.unhot I')
      exact ⟨m, hn, fun h'' sb => ⟨.ref s2.heap.objs.size, H', I7.turned (t' := s'.toks) (fun b o hb z => (sb.2 b hb).trans z) f0 f1 f3 f4 f5, rfl, q⟩⟩
    · intro H' hn b hb
      obtain ⟨k0, k1, k2, k3, k4, k5⟩ := bg.fpok H' hn b hb
      refine ⟨k0, k1, k2, k3, k4, fun q hq => ?_⟩
      have e : q = p := by simpa using (show q ∈ [p] ++ ([] : List (Addr × Obj)) from hq)
      subst e
      exact (f2 b hb).2.2.2.2.2 q (List.mem_append_left _ hp)
  exact codeAny_compStart_list lp (t.self X.A 0 _ _ _ bg.st lp)
end
/-- isinstance of a pinned exception -/
theorem call_isP {X : Cx} {a D : Addr} {oe : Obj} (C : ExcC X.K D) (hp : (a, oe) ∈ X.pn) (hz : Zc (.ref D) none oe) (hf : ∃ vs, oe.data = .fields vs) : CallR X (.builtin "isinstance") (rIsE X.K D a) := by
  intro pins s σ H xs us Q I r h
  obtain ⟨c, cv, b, rfl, hcv, e, q⟩ := h
  obtain ⟨u1, u2, rfl, r1, r2⟩ := vals2 r
  cases r1
  have ec := hcv _ r2
  subst ec
  obtain ⟨hget, _⟩ := I.pin (a, oe) (List.mem_append_left _ hp)
  obtain ⟨vs, hv⟩ := hf
  have J : PySem.W.InstAt s.heap a oe D none := by
    obtain ⟨oc, od, oda, osl⟩ := oe
    obtain ⟨h1, h2⟩ := hz
    dsimp only at h1 h2 hv
    subst h1 h2 hv
    exact ⟨hget, rfl, rfl, trivial⟩
  exact PySem.W.kia_one (PySem.W.handS_kitx_exc C.hg C.hk C.hs C.hd C.ha C.hn C.ht C.hm) I.kIn J e (fun z => nomatch z) fun tk => ⟨.bl b, H, I.kept (t' := tk) fun _ _ z => z, rfl, q⟩
end Tf

/-! Sums of tuples, displays of dicts with tuple keys, types and classes of data, objects, own lists' methods. -/
namespace Tf
open PySem PySem.Spec PyProof.Rows L2 Dt
/-! ### sum of a tuple -/
section
variable {prog : Program} {w : World} {A : Around} {E : Value → Shared → Prop} {s : Shared} {l : Addr} {xs : Array (Int × Tok)}
theorem sum_tupG {Q : Value → Shared → Prop} (hh : A.handled = none) (ht : s.heap.IsTuple l (intItems xs))
    (h : ∀ h' tk t', (∀ b o, s.heap.get? b = some o → h'.get? b = some o) → Q (.int (preSum (numAt xs) xs.size) t') { s with heap := h', toks := tk }) : wpAny (model prog w) A (call (.builtin "sum") [.ref l]) Q E s := by
  have lt : l < s.heap.objs.size := by
    obtain ⟨_, e, _⟩ := ht
    exact Heap.lt_size e
  refine call_sum_walkG (wpAny_pyIter_tuple ht ⟨s.heap.objs.size, [s.heap.objs.size, l], [s.heap.objs.size], _, _, _, numAt xs, rfl, Walks.tuple (A := A.in1) hh s.heap.objs.size l (Nat.ne_of_lt lt) (intItems xs), ⟨⟨_, Heap.get?_push_size _ rfl, rfl, rfl⟩, ?_⟩, fun b hb => ?_, fun _ _ => intItems_at, fun h' tk t' hk => ?_⟩)
  · obtain ⟨o, e, z⟩ := ht
    exact ⟨o, Heap.get?_push_of_some _ e, z⟩
  · show b < (s.heap.push _).objs.size
    rw [Heap.size_push]
    rcases List.mem_cons.mp hb with z | z
    · rw [z]
      exact Nat.lt_succ_self _
    · rw [List.mem_singleton.mp z]
      exact Nat.lt_succ_of_lt lt
  · have kp : ∀ b o, s.heap.get? b = some o → h'.get? b = some o := fun b o e => hk b o (fun z => by
      have z' := List.mem_singleton.mp z
      rw [z'] at e
      exact absurd (Heap.lt_size e) (Nat.lt_irrefl _)) (Heap.get?_push_of_some _ e)
    have z := h h' tk t' kp
    simpa [intItems] using z
end
def rSumT (K : PySem.W.Frag) : List V → Hp → VK → Prop := fun vs H Q => ∃ (a : Addr) (ns : List Int), vs = [V.ref a] ∧ SqT K H a (ns.map V.int) ∧ Q (.int ns.sum) H
theorem call_sumT {X : Cx} (hc : X.calm = true) : CallR X (.builtin "sum") (rSumT X.K) := by
  intro pins s σ H vs us Q I r h
  obtain ⟨a, ns, rfl, hs, q⟩ := h
  obtain ⟨its, rv, hl, _⟩ := I.tuple hs
  rw [Vals.ref1 r]
  obtain ⟨xs, e⟩ := rv.ints.allInts.items
  have hn : numsOf (intItems xs).toList = ns := by
    rw [← e]
    exact rv.ints.numsOf
  rw [nums_intItems] at hn
  rw [e] at hl
  refine sum_tupG (I.ok.hd hc) hl fun h' tk t' hk => ?_
  rw [preSum_eq, List.take_of_length_le (by simp), hn]
  exact ⟨.int _, H, I.kept hk, ⟨_, rfl⟩, q⟩
def rSumU (K : PySem.W.Frag) : List V → Hp → VK → Prop := fun vs H Q => rSum K vs H Q ∨ rSumT K vs H Q
theorem ucall_sum {X : Cx} (hc : X.calm = true) : CallR X (.builtin "sum") (rSumU X.K) := (cr_sum hc).or (call_sumT hc)
/-! ### {(a, b): v, ..} -/
def putsT (p : Addr) : List (V × V) → Hp → (Hp → Prop) → Prop
  | [], H, Q => Q H
  | (x, y) :: r, H, Q => ∃ H', DPut H p x y H' ∧ putsT p r H' Q
def tDispT (trs : List (TE × TE)) : TE := fun σ H Q => ∀ p, H p = none → tPairs trs σ (upd H p (.dT [])) fun ps H2 => putsT p ps H2 fun H3 => Q (.ref p) H3
theorem store_all {X : Cx} {pins : List (Addr × Obj)} {σ : St} {E : Value → Shared → Prop} {p : Addr} (hu : X.A.units + 1 < cLine) : ∀ {ps : List (V × V)} {vs : List (Value × Value)} {H : Hp} {s : Shared} {Q : Hp → Prop} {R : PUnit → Shared → Prop}, Inv X pins σ H s → VV ps vs → putsT p ps H Q →
    (∀ H' s', Inv X pins σ H' s' → Q H' → R PUnit.unit s') → wpAny (model X.prog X.w) X.A (storeAll p vs) R E s
  | _, _, H, s, Q, R, I, .nil, q, k => by
    unfold storeAll
    rw [List.forIn_nil]
    exact wpAny_pure (k H s I q)
  | _, _, H, s, Q, R, I, .cons (a := a) (b := b) h t, q, k => by
    obtain ⟨x, y⟩ := a
    obtain ⟨u, v⟩ := b
    obtain ⟨H', put, q⟩ := q
    unfold storeAll
    rw [List.forIn_cons]
    refine wpAny_bind (wpAny_bind (dictSet_put hu I put h.1 h.2 fun s' I' => wpAny_pure ?_))
    exact store_all hu I' t q k
theorem pe_dispT {X : Cx} {pos : Pos} {keys : List (Option Expr)} {values : List Expr} {trs : List (TE × TE)} (hu : X.A.units + 1 < cLine) (h : PPs X pos keys values trs) (hall : keys.all (·.isSome) = true := by rfl) (hl : keys.length = values.length := by rfl) (h0 : keys ≠ [] := by exact fun z => nomatch z)
    (h15 : keys.length ≤ 15 := by decide) : PE X (.Dict keys values pos) (tDispT trs) := by
  refine ⟨fun pins s σ H Q I q => ?_⟩
  have hn := I.hok.fresh (Nat.le_refl s.heap.objs.size)
  have I1 := I.laid (a := s.heap.objs.size) (o := .dT []) (h' := s.heap.push { cls := .type "dict", data := .dict #[] }) (t' := s.toks) (fun _ _ q => Heap.get?_push_of_some _ q) (Nat.le_refl _) (dt_empty s.heap I.big)
  refine wpAny_Dict_any hall hl h0 h15 (thn (h.run pins _ σ _ _ I1 (q _ hn)) fun ws s2 z => ?_)
  obtain ⟨ps, H2, I2, rel, q2⟩ := z
  exact store_all hu I2 rel q2 fun H' s' I' q3 => ⟨.ref s.heap.objs.size, H', I', rfl, q3⟩
section
variable {T : List (Addr × Str)} {α β γ ν : Type} [Dt α] [Dt β] [Dt γ] [Dt ν] {σ : St} {F G F0 H0 H : Hp} {te ta tb tk tv : TE} {tt : TT} {K : PySem.W.Frag} {E : Ends}
/-- a dict of one pair that will be written -/
theorem s_ownD1 {i : Nat} {k : Pt} {x : ν} (hk : Ev T tk σ F k) (hx : Ev T tv σ F x) (st : Step T F0 F H0 H)
    (c : ∀ p F' H', Step T F F' H H' → Step T F0 F' H0 H' → H0 p = none → OwnD F' H' p (⟨[(k, x)]⟩ : Dc ν) → E.nx (σ.set i (some (.ref p))) H') : tAsg (tDispT [(tk, tv)]) (gName i) E σ H := fun p hp => by
  have n0 : H0 p = none := st.ext.live p hp
  obtain ⟨sn, on⟩ := owned_new (ν := ν) st.sub st.tab hp
  refine hk _ sn.sub sn.tab _ fun y F2 H2 s2 r2 => (hx.mono s2.ff) H2 s2.sub s2.tab _ fun v F3 H3 s3 r3 => ?_
  have o3 := (on.step s2).step s3
  obtain ⟨H4, put, o4, u, hu, u', rfl⟩ := o3.put s3.sub (r2.mono s3.ff) r3 (Nat.zero_lt_succ _)
  have s4 : Step T F F3 H (upd H3 p (.dT u')) := ((sn.trans s2).trans s3).mut o3.1 hp hu nt_dT fun φ z => nomatch z
  exact ⟨_, put, c p F3 _ s4 (st.trans s4) n0 o4⟩
theorem ev_sumP {p : Pt} (h : Ev T te σ F p) : Ev T (tCB (rSumU K) (tCons te tNil)) σ F (p.1 + p.2) :=
  ev_cb (ea_cons h ea_nil) fun vs F1 H1 Q _ s t r q => by
    obtain ⟨v, rfl, r1⟩ := rvl1 r
    obtain ⟨a, u, w, rfl, b, b1, b2⟩ := rv_pair r1
    cases rv_int b1
    cases rv_int b2
    refine .inr ⟨a, [p.1, p.2], rfl, SqT.of (s _ _ b).1, ?_⟩
    have e : [p.1, p.2].sum = p.1 + p.2 := by simp
    rw [e]
    exact q _ F1 H1 (.refl s t) (.int _)
/-! ### types -/
/-- data that type() tells -/
def tyName : PyData → String
  | .none => "NoneType"
  | .bool _ => "bool"
  | .int _ => "int"
  | .str _ => "str"
  | .list _ => "list"
  | .tuple _ => "tuple"
  | _ => "dict"
/-- no dict but an empty one with no keys, no object -/
def plain : PyData → Bool
  | .none => true
  | .bool _ => true
  | .int _ => true
  | .str _ => true
  | .list _ => true
  | .tuple _ => true
  | .dict [(.none, .none)] => true
  | _ => false
theorem rv_ty {x : PyData} {v : V} (s : Sub F H) (h : Rv F v x) (hp : plain x = true) : TyB K H v (tyName x) := by
  cases h with
  | non => exact .non
  | bl b => exact .bl b
  | int i => exact .int i
  | str z => exact .str z
  | lst a r => exact .lst (SqL.of (s _ _ a).1)
  | tup a r => exact .tup (SqT.of (s _ _ a).1)
  | emp a => exact .dK (s _ _ a).1
  | @dic p ks us es a l r =>
    exfalso
    cases ks with
    | nil => simp [plain] at hp
    | cons k ks =>
      cases es with
      | nil => simp [plain] at hp
      | cons e es =>
        simp only [List.map_cons, List.zip_cons_cons] at hp
        unfold plain at hp
        split at hp <;> simp_all [keyD]
  | obj a l r =>
    exfalso
    unfold plain at hp
    split at hp <;> simp_all
theorem ev_typeIs {x : α} {b : String} {neg : Bool} (h : Ev T te σ F x) (hp : plain (d x) = true) : Ev T (tOp (rIsU neg) (tCB (rTyp K) (tCons te tNil)) (tC (.ty b))) σ F (if neg then !decide (tyName (d x) = b) else decide (tyName (d x) = b)) := fun H s t Q q => by
    show tCB (rTyp K) (tCons te tNil) σ H fun x H1 => rIsU neg x (.ty b) H1 Q
    show tCons te tNil σ H fun vs H1 => rTyp K vs H1 fun x H1 => rIsU neg x (.ty b) H1 Q
    refine ea_cons h ea_nil H s t _ fun vs F1 H1 st r => ?_
    obtain ⟨v, rfl, r1⟩ := rvl1 r
    exact ⟨v, _, rfl, rv_ty st.sub r1 hp, .inr (.inl ⟨_, b, rfl, rfl, q _ F1 H1 st (.bl _)⟩)⟩
theorem plain_dic {ks : List (List Key)} {es : List PyData} (hp : plain (.dict ((ks.map keyD).zip es)) = true) : False := by
  cases ks with
  | nil => simp [plain] at hp
  | cons k ks =>
    cases es with
    | nil => simp [plain] at hp
    | cons e es =>
      simp only [List.map_cons, List.zip_cons_cons] at hp
      unfold plain at hp
      split at hp <;> simp_all [keyD]
theorem rv_tyOf {x : PyData} {v : V} (s : Sub F H) (h : Rv F v x) (hp : plain x = true) : TyX K H v (.type (tyName x)) := by
  cases h with
  | non => exact .base .non
  | bl b => exact .base (.bl b)
  | int i => exact .base (.int i)
  | str z => exact .base (.str z)
  | lst a r => exact .base (.lst (s _ _ a).1)
  | tup a r => exact .base (.tup (s _ _ a).1)
  | emp a => exact .base (.dK (s _ _ a).1)
  | dic a l r => exact (plain_dic hp).elim
  | obj a l r =>
    exfalso
    unfold plain at hp
    split at hp <;> simp_all
theorem ev_isi {x : α} {b : String} {r : Bool} (h : Ev T te σ F x) (hp : plain (d x) = true) (hk : PySem.W.kitOne K (.type (tyName (d x))) (.type b) = some r) : Ev T (tCB (rIsi K) (tCons te (tCons (tC (.ty b)) tNil))) σ F r := fun H s t Q q =>
  h H s t _ fun v F1 H1 st r1 => ⟨v, _, _, _, _, rfl, .ty b, rv_tyOf st.sub r1 hp, hk, q _ F1 H1 st (.bl _)⟩
end
example {K : PySem.W.Frag} : PySem.W.kitOne K (.type "list") (.type "list") = some true := by rfl
example {K : PySem.W.Frag} : PySem.W.kitOne K (.type "int") (.type "bool") = some false := by rfl
end Tf

/-! The object Floor as data; methods; fresh answers; own lists that are popped, cleared, handed in. -/
namespace Tf
open PySem PySem.Spec PyProof.Rows L2 Dt
/-- what a Floor bears -/
structure Fl where
  cls : Addr
  rows : List Str
  cells : List Pt
  known : Dc Bool
instance : Dt Fl := ⟨fun x => .dict ((.int (x.cls : Nat), .none) :: [(.str "_rows", d x.rows), (.str "_cells", d x.cells), (.str "_known", d x.known)])⟩
theorem rv_fl {F : Hp} {v : V} {x : Fl} (h : Rv F v (d x)) : ∃ p dx u1 u2 u3, v = .ref p ∧ F p = some (.ins x.cls dx [("_rows", u1), ("_cells", u2), ("_known", u3)]) ∧ Rv F u1 (d x.rows) ∧ Rv F u2 (d x.cells) ∧ Rv F u3 (d x.known) := by
  have h' : Rv F v (.dict ((.int (x.cls : Nat), .none) :: [(.str "_rows", d x.rows), (.str "_cells", d x.cells), (.str "_known", d x.known)])) := h
  generalize he : ((PyData.int (x.cls : Nat), PyData.none) :: [(PyData.str "_rows", (d x.rows : PyData)), (.str "_cells", d x.cells), (.str "_known", d x.known)]) = es at h'
  cases h' with
  | emp a => simp at he
  | @dic p ks us fs a l r =>
    exfalso
    cases ks with
    | nil => simp at he
    | cons k ks =>
      cases fs with
      | nil => simp at he
      | cons e fs => simp [keyD] at he
  | @obj p C dx ns us fs a l r =>
    simp only [List.cons.injEq, Prod.mk.injEq, PyData.int.injEq, and_true] at he
    obtain ⟨e1, e2⟩ := he
    have e1 : x.cls = C := by
      have := Int.ofNat.inj e1
      exact this
    have l1 := r.length
    have l2 : ns.length = 3 := by
      have z := congrArg List.length e2
      simp only [List.length_cons, List.length_nil, List.length_zip, List.length_map] at z
      omega
    obtain ⟨n1, n2, n3, rfl⟩ : ∃ a b c, ns = [a, b, c] := by
      match ns, l2 with
      | [a, b, c], _ => exact ⟨a, b, c, rfl⟩
    cases r with
    | nil => simp at l
    | cons r1 r =>
      cases r with
      | nil => simp at l
      | cons r2 r =>
        cases r with
        | nil => simp at l
        | cons r3 r =>
          cases r with
          | cons r4 r => simp at l
          | nil =>
            simp only [List.map_cons, List.map_nil, List.zip_cons_cons, List.cons.injEq, Prod.mk.injEq, PyData.str.injEq] at e2
            obtain ⟨⟨q1, k1⟩, ⟨q2, k2⟩, ⟨q3, k3⟩, _⟩ := e2
            subst q1 q2 q3 k1 k2 k3
            subst e1
            exact ⟨_, _, _, _, _, rfl, a, r1, r2, r3⟩
theorem fl_rv {F : Hp} {p dx : Addr} {u1 u2 u3 : V} {x : Fl} (e : F p = some (.ins x.cls dx [("_rows", u1), ("_cells", u2), ("_known", u3)])) (r1 : Rv F u1 (d x.rows)) (r2 : Rv F u2 (d x.cells)) (r3 : Rv F u3 (d x.known)) : Rv F (.ref p) (d x) :=
  Rv.obj (ns := ["_rows", "_cells", "_known"]) (us := [u1, u2, u3]) e rfl (.cons r1 (.cons r2 (.cons r3 .nil)))
section
variable {T : List (Addr × Str)} {α β γ ν : Type} [Dt α] [Dt β] [Dt γ] [Dt ν] {σ : St} {F G F0 H0 H : Hp} {te ta tb tk tv : TE} {tt : TT} {K : PySem.W.Frag} {E : Ends} {CC : XK}
theorem ev_fld1 {x : Fl} (h : Ev T te σ F x) (c : Cls K x.cls) (n : NoAttr K x.cls "_rows") : Ev T (tFld K te "_rows") σ F x.rows := fun H s t Q q => h H s t _ fun v F1 H1 st r => by
  obtain ⟨p, dx, u1, u2, u3, rfl, a, r1, r2, r3⟩ := rv_fl r
  exact ⟨p, _, dx, _, u1, rfl, (st.sub _ _ a).1, c, n, by rfl, q _ F1 H1 st r1⟩
theorem ev_fld2 {x : Fl} (h : Ev T te σ F x) (c : Cls K x.cls) (n : NoAttr K x.cls "_cells") : Ev T (tFld K te "_cells") σ F x.cells := fun H s t Q q => h H s t _ fun v F1 H1 st r => by
  obtain ⟨p, dx, u1, u2, u3, rfl, a, r1, r2, r3⟩ := rv_fl r
  exact ⟨p, _, dx, _, u2, rfl, (st.sub _ _ a).1, c, n, by rfl, q _ F1 H1 st r2⟩
theorem ev_fld3 {x : Fl} (h : Ev T te σ F x) (c : Cls K x.cls) (n : NoAttr K x.cls "_known") : Ev T (tFld K te "_known") σ F x.known := fun H s t Q q => h H s t _ fun v F1 H1 st r => by
  obtain ⟨p, dx, u1, u2, u3, rfl, a, r1, r2, r3⟩ := rv_fl r
  exact ⟨p, _, dx, _, u3, rfl, (st.sub _ _ a).1, c, n, by rfl, q _ F1 H1 st r3⟩
/-! ### methods, answers that are new -/
/-- as Pu, and an object that is told is new -/
def PuN (T : List (Addr × Str)) (R : Hp → List V → PyData → Prop) : Sp := fun vs H Q _ => ∃ (F : Hp) (e : PyData), Sub F H ∧ LamX.Tabs T H ∧ R F vs e ∧ ∀ v F' H', Step T F F' H H' → Rv F' v e → (∀ p, v = .ref p → H p = none) → Q v H'
def flNames : List Str := ["_rows", "_cells", "_known"]
theorem look_none {m : Str} {u1 u2 u3 : V} (hm : m ∉ flNames) : ([("_rows", u1), ("_cells", u2), ("_known", u3)] : List (Str × V)).lookup m = none := by
  unfold flNames at hm
  simp only [List.mem_cons, List.not_mem_nil, or_false, not_or] at hm
  have n1 : (m == ("_rows" : Str)) = false := beq_eq_false_iff_ne.mpr hm.1
  have n2 : (m == ("_cells" : Str)) = false := beq_eq_false_iff_ne.mpr hm.2.1
  have n3 : (m == ("_known" : Str)) = false := beq_eq_false_iff_ne.mpr hm.2.2
  simp only [List.lookup_cons, List.lookup_nil, n1, n2, n3]
theorem ev_m0N {f : Fl → β} {pre : Fl → Prop} {x : Fl} {m : Str} {C : Addr} (h : Ev T te σ F x) (hp : pre x) (hc : x.cls = C) (hm : m ∉ flNames := by decide) : EvN T (tMeth C m (PuN T (R1 f pre)) [] CC te tNil) σ F (f x) := fun H s t Q q => h H s t _ fun v F1 H1 st r => by
  subst hc
  obtain ⟨p, dx, u1, u2, u3, rfl, a, r1, r2, r3⟩ := rv_fl r
  exact ⟨p, dx, _, rfl, (st.sub _ _ a).1, look_none hm, F1, d (f x), st.sub, st.tab, ⟨x, .cons r .nil, hp, rfl⟩, fun v F' H' s2 r2 n => q v F' H' (st.trans s2) r2 fun p e => st.ext.live p (n p e)⟩
theorem ev_m0 {f : Fl → β} {pre : Fl → Prop} {x : Fl} {m : Str} {C : Addr} (h : Ev T te σ F x) (hp : pre x) (hc : x.cls = C) (hm : m ∉ flNames := by decide) : Ev T (tMeth C m (Pu T (R1 f pre)) [] CC te tNil) σ F (f x) := fun H s t Q q => h H s t _ fun v F1 H1 st r => by
  subst hc
  obtain ⟨p, dx, u1, u2, u3, rfl, a, r1, r2, r3⟩ := rv_fl r
  exact ⟨p, dx, _, rfl, (st.sub _ _ a).1, look_none hm, F1, d (f x), st.sub, st.tab, ⟨x, .cons r .nil, hp, rfl⟩, fun v F' H' s2 r2 => q v F' H' (st.trans s2) r2⟩
theorem ev_m1N {f : Fl → α → β} {pre : Fl → α → Prop} {x : Fl} {y : α} {m : Str} (h : Ev T te σ F x) (h' : Ev T ta σ F y) (hp : pre x y) (hc : x.cls = C) (hm : m ∉ flNames := by decide) : EvN T (tMeth C m (PuN T (R2' f pre)) [] CC te (tCons ta tNil)) σ F (f x y) := fun H s t Q q => h H s t _ fun v F1 H1 st r => by
  subst hc
  obtain ⟨p, dx, u1, u2, u3, rfl, a, r1, r2, r3⟩ := rv_fl r
  refine ⟨p, dx, _, rfl, (st.sub _ _ a).1, look_none hm, ea_cons (h'.mono st.ff) ea_nil H1 st.sub st.tab _ fun ws F2 H2 s2 rr => ?_⟩
  obtain ⟨w, rfl, rw_⟩ := rvl1 rr
  exact ⟨F2, d (f x y), s2.sub, s2.tab, ⟨x, y, .cons (r.mono s2.ff) (.cons rw_ .nil), hp, rfl⟩, fun v F' H' s3 r3 n => q v F' H' ((st.trans s2).trans s3) r3 fun p e => (st.trans s2).ext.live p (n p e)⟩
theorem ev_m1 {f : Fl → α → β} {pre : Fl → α → Prop} {x : Fl} {y : α} {m : Str} (h : Ev T te σ F x) (h' : Ev T ta σ F y) (hp : pre x y) (hc : x.cls = C) (hm : m ∉ flNames := by decide) : Ev T (tMeth C m (Pu T (R2' f pre)) [] CC te (tCons ta tNil)) σ F (f x y) := fun H s t Q q => h H s t _ fun v F1 H1 st r => by
  subst hc
  obtain ⟨p, dx, u1, u2, u3, rfl, a, r1, r2, r3⟩ := rv_fl r
  refine ⟨p, dx, _, rfl, (st.sub _ _ a).1, look_none hm, ea_cons (h'.mono st.ff) ea_nil H1 st.sub st.tab _ fun ws F2 H2 s2 rr => ?_⟩
  obtain ⟨w, rfl, rw_⟩ := rvl1 rr
  exact ⟨F2, d (f x y), s2.sub, s2.tab, ⟨x, y, .cons (r.mono s2.ff) (.cons rw_ .nil), hp, rfl⟩, fun v F' H' s3 r3 => q v F' H' ((st.trans s2).trans s3) r3⟩
theorem ev_call1N {f : α → β} {pre : α → Prop} {x : α} (h : Ev T te σ F x) (hp : pre x) : EvN T (tCall (PuN T (R1 f pre)) [] CC (tCons te tNil)) σ F (f x) := fun H s t Q q =>
  h H s t _ fun v F1 H1 st r => ⟨F1, d (f x), st.sub, st.tab, ⟨x, .cons r .nil, hp, rfl⟩, fun v F' H' s2 r2 n => q v F' H' (st.trans s2) r2 fun p e => st.ext.live p (n p e)⟩
theorem s_retN {x : α} (h : EvN T te σ F x) (st : Step T F0 F H0 H) (k : ∀ v F' H', Step T F0 F' H0 H' → Rv F' v (d x) → (∀ p, v = .ref p → H0 p = none) → E.rt v H') : tRet te E σ H :=
  h H st.sub st.tab _ fun v F' H' s r n => k v F' H' (st.trans s) r fun p e => st.ext.live p (n p e)
theorem pu_of {R : Hp → List V → PyData → Prop} {vs : List V} {H : Hp} {Q : VK} {C : XK} (h : Pu T R vs H Q C) : PuN T R vs H Q C := by
  obtain ⟨F, e, s, t, r, k⟩ := h
  exact ⟨F, e, s, t, r, fun v F' H' st rv _ => k v F' H' st rv⟩
/-- self.f = value, self being made -/
theorem s_setF {i : Nat} {p C dx : Addr} {fs : List (Str × V)} {f : Str} {x : α} (hi : σ[i]? = some (some (.ref p))) (h : Ev T tv σ F x) (hf : F p = none) (hH : H p = some (.ins C dx fs)) (c : Cls K C) (n : NoAttr K C f) (hl : fs.length < 1000) (st : Step T F0 F H0 H) (np : H0 p = none)
    (k : ∀ v F' H', Same F F' → Step T F0 F' H0 H' → F' p = none → H' p = some (.ins C dx (putF f v fs)) → Rv F' v (d x) → E.nx σ H') : sFld K (tVar i) tv f E σ H :=
  h H st.sub st.tab _ fun v F' H' s r => by
    have hp := s.new p hf (wr_ins hH)
    have hH' := s.ext.keep p _ hH nt_ins
    exact ⟨_, hi, p, C, dx, fs, rfl, hH', c, n, hl, k v F' _ s.ff ((st.trans s).mut hp np hH' nt_ins fun φ z => nomatch z) hp upd_same r⟩
theorem s_setFN {i : Nat} {p C dx : Addr} {fs : List (Str × V)} {f : Str} {x : α} (hi : σ[i]? = some (some (.ref p))) (h : EvN T tv σ F x) (hf : F p = none) (hH : H p = some (.ins C dx fs)) (c : Cls K C) (n : NoAttr K C f) (hl : fs.length < 1000) (st : Step T F0 F H0 H) (np : H0 p = none)
    (k : ∀ v F' H', Same F F' → Step T F0 F' H0 H' → F' p = none → H' p = some (.ins C dx (putF f v fs)) → Rv F' v (d x) → (∀ a, v = .ref a → H0 a = none) → E.nx σ H') : sFld K (tVar i) tv f E σ H :=
  h H st.sub st.tab _ fun v F' H' s r hn => by
    have hp := s.new p hf (wr_ins hH)
    have hH' := s.ext.keep p _ hH nt_ins
    exact ⟨_, hi, p, C, dx, fs, rfl, hH', c, n, hl, k v F' _ s.ff ((st.trans s).mut hp np hH' nt_ins fun φ z => nomatch z) hp upd_same r fun a e => st.ext.live a (hn a e)⟩
theorem s_setV {i j : Nat} {p C dx : Addr} {fs : List (Str × V)} {f : Str} {v : V} (hi : σ[i]? = some (some (.ref p))) (hj : σ[j]? = some (some v)) (hf : F p = none) (hH : H p = some (.ins C dx fs)) (c : Cls K C) (n : NoAttr K C f) (hl : fs.length < 1000) (st : Step T F0 F H0 H) (np : H0 p = none)
    (k : ∀ H', Step T F0 F H0 H' → H' p = some (.ins C dx (putF f v fs)) → E.nx σ H') : sFld K (tVar i) (tVar j) f E σ H :=
  ⟨v, hj, _, hi, p, C, dx, fs, rfl, hH, c, n, hl, k _ (st.mut hf np hH nt_ins fun φ z => nomatch z) upd_same⟩
theorem s_asgN {i : Nat} {x : α} (h : EvN T te σ F x) (st : Step T F0 F H0 H) (k : ∀ v F' H', Step T F F' H H' → Step T F0 F' H0 H' → Rv F' v (d x) → (∀ p, v = .ref p → H0 p = none) → E.nx (σ.set i (some v)) H') : tAsg te (gName i) E σ H :=
  h H st.sub st.tab _ fun v F' H' s r n => k v F' H' s (st.trans s) r fun p e => st.ext.live p (n p e)
/-! ### own lists: pop, clear -/
theorem rvl_last {x : α} : ∀ {xs : List α} {us : List V}, RvL F us (xs.map d ++ [x].map d) → ∃ ws w, us = ws ++ [w] ∧ RvL F ws (xs.map d) ∧ Rv F w (d x)
  | [], _, h => by
    cases h with
    | cons a r =>
      cases r
      exact ⟨[], _, rfl, .nil, a⟩
  | y :: ys, _, h => by
    cases h with
    | cons a r =>
      obtain ⟨ws, w, e, r1, r2⟩ := rvl_last (xs := ys) r
      exact ⟨_ :: ws, w, by rw [e]; rfl, .cons a r1, r2⟩
/-- xs.pop(), its item kept -/
theorem s_pop {i j : Nat} {p : Addr} {xs : List α} {x : α} (hi : σ[i]? = some (some (.ref p))) (o : Own F H p (xs ++ [x])) (st : Step T F0 F H0 H) (n : H0 p = none)
    (k : ∀ v H', Step T F0 F H0 H' → Own F H' p xs → Rv F v (d x) → (∀ b o, b ≠ p → H b = some o → H' b = some o) → E.nx (σ.set j (some v)) H') : tAsg (tBM0 K "list" rPop (tVar i)) (gName j) E σ H := by
  obtain ⟨h1, us, h2, h3⟩ := o
  rw [List.map_append] at h3
  obtain ⟨ws, w, rfl, r1, r2⟩ := rvl_last h3
  refine ⟨_, hi, Or.inl ⟨rfl, _, SqL.of h2⟩, p, ws ++ [w], w, rfl, rfl, h2, by simp, ?_⟩
  refine k w _ (st.mut h1 n h2 nt_lst fun φ z => nomatch z) ⟨h1, ws, ?_, r1⟩ r2 fun b o hb e => by rw [upd_ne hb]; exact e
  rw [upd_same, List.dropLast_concat]
/-- xs.clear(), which nobody holds in the frame -/
theorem s_clear {i : Nat} {p : Addr} {us : List V} (hi : σ[i]? = some (some (.ref p))) (hf : F p = none) (hu : H p = some (.lst us)) (st : Step T F0 F H0 H) (n : H0 p = none)
    (k : ∀ H', Step T F0 F H0 H' → H' p = some (.lst []) → (∀ b o, b ≠ p → H b = some o → H' b = some o) → E.nx σ H') : tDrop (tBM0 K "list" rClear (tVar i)) E σ H :=
  ⟨_, hi, Or.inl ⟨rfl, _, SqL.of hu⟩, p, us, rfl, rfl, hu, k _ (st.mut hf n hu nt_lst fun φ z => nomatch z) upd_same fun b o hb e => by rw [upd_ne hb]; exact e⟩
/-! ### a list is handed in, and written later -/
def erase (G : Hp) (p : Addr) : Hp := fun a => if a = p then none else G a
theorem erase_ne {p a : Addr} (h : a ≠ p) : erase G p a = G a := if_neg h
theorem erase_same {p : Addr} : erase G p p = none := if_pos rfl
theorem erase_sub {p : Addr} (s : Sub G H) : Sub (erase G p) H := fun a o e => by
  by_cases z : a = p
  · rw [z, erase_same] at e
    cases e
  · rw [erase_ne z] at e
    exact s a o e
theorem erase_same' {p : Addr} : Same (erase G p) G := fun a o e => by
  by_cases z : a = p
  · rw [z, erase_same] at e
    cases e
  · rw [erase_ne z] at e
    exact e
theorem erase_ff {p : Addr} (l : Same F G) (h : F p = none) : Same F (erase G p) := fun a o e => by
  rw [erase_ne (ne_of_none e h)]
  exact l a o e
theorem Step.unsee {p : Addr} {o : HO} {G' H' : Hp} (hf : F p = none) (s : Step T (upd F p o) G' H H') : Step T F (erase G' p) H H' := by
  refine ⟨erase_ff ((same_upd hf).trans s.ff) hf, erase_sub s.sub, s.ext, fun a h1 h2 => ?_, s.tab⟩
  by_cases z : a = p
  · rw [z, erase_same]
  · rw [erase_ne z]
    exact s.new a (by rw [upd_ne z]; exact h1) h2
section
variable {p : Addr} {us : List V} (hp : G p = some (.lst us))
include hp
theorem erase_pt {v : V} {x : Pt} (r : Rv G v (d x)) : Rv (erase G p) v (d x) := by
  obtain ⟨q, u, w, rfl, a, r1, r2⟩ := rv_pair r
  have nq : q ≠ p := fun z => by
    rw [z, hp] at a
    cases a
  cases rv_int r1
  cases rv_int r2
  exact Rv.tup (us := [.int x.1, .int x.2]) (by rw [erase_ne nq]; exact a) (.cons (.int _) (.cons (.int _) .nil))
theorem erase_ptsL : ∀ {ws : List V} {xs : List Pt}, RvL G ws (xs.map d) → RvL (erase G p) ws (xs.map d)
  | _, [], h => by
    cases h
    exact .nil
  | _, x :: xs, h => by
    cases h with
    | cons a r => exact .cons (erase_pt hp a) (erase_ptsL r)
theorem erase_pts {q : Addr} {xs : List Pt} (r : Rv G (.ref q) (d xs)) (n : q ≠ p) : Rv (erase G p) (.ref q) (d xs) := by
  obtain ⟨q', ws, e, a, b⟩ := rv_list r
  cases e
  exact Rv.lst (by rw [erase_ne n]; exact a) (erase_ptsL hp b)
theorem erase_strs {q : Addr} {xs : List Str} (r : Rv G (.ref q) (d xs)) (n : q ≠ p) : Rv (erase G p) (.ref q) (d xs) := by
  obtain ⟨q', ws, e, a, b⟩ := rv_list r
  cases e
  refine Rv.lst (by rw [erase_ne n]; exact a) ?_
  clear a r
  revert ws
  induction xs with
  | nil =>
    intro ws b
    cases b
    exact .nil
  | cons x xs ih =>
    intro ws b
    cases b with
    | cons a r =>
      cases rv_str a
      exact .cons (.str _) (ih _ r)
theorem erase_dc {v : V} {D : Dc Bool} (r : Rv G v (d D)) : Rv (erase G p) v (d D) := by
  obtain ⟨q, kvs, rfl, a, b⟩ := rv_dc r
  have nq : q ≠ p := fun z => by
    rw [z, hp] at a
    cases a
  have b' : RvK (erase G p) kvs D.l := by
    clear a r
    generalize D.l = l at b
    induction b with
    | nil => exact .nil
    | @cons k u x kvs l one more ih =>
      cases rv_bool one
      exact .cons (.bl _) ih
  exact b'.rv (by rw [erase_ne nq]; exact a)
end
end
end Tf

/-! The tables that the making of lambdas writes, law by law (k01: in_order's; a law without lambdas: none). -/
namespace Tf
open PySem PySem.Spec PyProof.Rows L2 Dt
/-- the tables that the making of lambdas writes -/
def tabs (K : PySem.W.Frag) : List (Addr × Str) := [((He.cT K ("in_order", none)).2, "in_order.<locals>.<lambda>")]
end Tf

/-! What the defs tell, as functions on data; specs' lengths. -/
namespace Tf
open PySem PySem.Spec PyProof.Rows L2 Dt
section
variable {T : List (Addr × Str)} {α β γ δ : Type} [Dt α] [Dt β] [Dt γ] [Dt δ] {vs : List V} {H : Hp} {Q : VK} {E : XK} {σ : St} {F G F0 H0 : Hp} {te ta tb : TE} {K : PySem.W.Frag} {tt : TT}
theorem len1 {f : α → β} {pre : α → Prop} (h : Pu T (R1 f pre) vs H Q E) : vs.length = 1 := by
  obtain ⟨F, e, _, _, ⟨x, r, _⟩, _⟩ := h
  exact r.length
theorem len2 {f : α → β → γ} {pre : α → β → Prop} (h : Pu T (R2' f pre) vs H Q E) : vs.length = 2 := by
  obtain ⟨F, e, _, _, ⟨x, y, r, _⟩, _⟩ := h
  exact r.length
theorem len3 {f : α → β → γ → δ} {pre : α → β → γ → Prop} (h : Pu T (R3 f pre) vs H Q E) : vs.length = 3 := by
  obtain ⟨F, e, _, _, ⟨x, y, z, r, _⟩, _⟩ := h
  exact r.length
theorem lenN1 {f : α → β} {pre : α → Prop} (h : PuN T (R1 f pre) vs H Q E) : vs.length = 1 := by
  obtain ⟨F, e, _, _, ⟨x, r, _⟩, _⟩ := h
  exact r.length
theorem lenN2 {f : α → β → γ} {pre : α → β → Prop} (h : PuN T (R2' f pre) vs H Q E) : vs.length = 2 := by
  obtain ⟨F, e, _, _, ⟨x, y, r, _⟩, _⟩ := h
  exact r.length
/-- the reading of a body, from what the spec says -/
theorem pu1 {f : α → β} {pre : α → Prop} {G : Prop} (h : Pu T (R1 f pre) vs H Q E) (k : ∀ F v x, vs = [v] → Rv F v (d x) → pre x → Step T F F H H → (∀ v F' H', Step T F F' H H' → Rv F' v (d (f x)) → Q v H') → G) : G := by
  obtain ⟨F, e, s, t, ⟨x, r, p, rfl⟩, q⟩ := h
  obtain ⟨v, rfl, r1⟩ := rvl1 r
  exact k F v x rfl r1 p (.refl s t) q
theorem pu2 {f : α → β → γ} {pre : α → β → Prop} {G : Prop} (h : Pu T (R2' f pre) vs H Q E) (k : ∀ F v w x y, vs = [v, w] → Rv F v (d x) → Rv F w (d y) → pre x y → Step T F F H H → (∀ v F' H', Step T F F' H H' → Rv F' v (d (f x y)) → Q v H') → G) : G := by
  obtain ⟨F, e, s, t, ⟨x, y, r, p, rfl⟩, q⟩ := h
  obtain ⟨v, w, rfl, r1, r2⟩ := rvl2 r
  exact k F v w x y rfl r1 r2 p (.refl s t) q
theorem pu3 {f : α → β → γ → δ} {pre : α → β → γ → Prop} {G : Prop} (h : Pu T (R3 f pre) vs H Q E) (k : ∀ F v w u x y z, vs = [v, w, u] → Rv F v (d x) → Rv F w (d y) → Rv F u (d z) → pre x y z → Step T F F H H → (∀ v F' H', Step T F F' H H' → Rv F' v (d (f x y z)) → Q v H') → G) : G := by
  obtain ⟨F, e, s, t, ⟨x, y, z, r, p, rfl⟩, q⟩ := h
  obtain ⟨v, w, u, rfl, r1, r2, r3⟩ := rvl3 r
  exact k F v w u x y z rfl r1 r2 r3 p (.refl s t) q
theorem puN1 {f : α → β} {pre : α → Prop} {G : Prop} (h : PuN T (R1 f pre) vs H Q E) (k : ∀ F v x, vs = [v] → Rv F v (d x) → pre x → Step T F F H H → (∀ v F' H', Step T F F' H H' → Rv F' v (d (f x)) → (∀ p, v = .ref p → H p = none) → Q v H') → G) : G := by
  obtain ⟨F, e, s, t, ⟨x, r, p, rfl⟩, q⟩ := h
  obtain ⟨v, rfl, r1⟩ := rvl1 r
  exact k F v x rfl r1 p (.refl s t) q
theorem puN2 {f : α → β → γ} {pre : α → β → Prop} {G : Prop} (h : PuN T (R2' f pre) vs H Q E) (k : ∀ F v w x y, vs = [v, w] → Rv F v (d x) → Rv F w (d y) → pre x y → Step T F F H H → (∀ v F' H', Step T F F' H H' → Rv F' v (d (f x y)) → (∀ p, v = .ref p → H p = none) → Q v H') → G) : G := by
  obtain ⟨F, e, s, t, ⟨x, y, r, p, rfl⟩, q⟩ := h
  obtain ⟨v, w, rfl, r1, r2⟩ := rvl2 r
  exact k F v w x y rfl r1 r2 p (.refl s t) q
/-- x, y = p -/
theorem s_two {i j : Nat} {p : Pt} {D : Ends} (h : Ev T te σ F p) (st : Step T F0 F H0 H) (k : ∀ F' H', Step T F F' H H' → Step T F0 F' H0 H' → D.nx ((σ.set i (some (.int p.1))).set j (some (.int p.2))) H') : tAsg te (gTup K 2 (gCons (gName i) (gCons (gName j) gNil))) D σ H :=
  s_asgG h st fun v F' H' s s' r => by
    obtain ⟨q, u, w, rfl, a, r1, r2⟩ := rv_pair r
    cases rv_int r1
    cases rv_int r2
    exact eg_two a H' s.sub _ (k F' H' s s')
/-- x, y = a tuple of two -/
theorem s_twoD {i j : Nat} {a b : PyData} {D : Ends} (h : Ev T te σ F (PyData.tuple [a, b])) (st : Step T F0 F H0 H) (k : ∀ u w F' H', Step T F F' H H' → Step T F0 F' H0 H' → Rv F' u a → Rv F' w b → D.nx ((σ.set i (some u)).set j (some w)) H') : tAsg te (gTup K 2 (gCons (gName i) (gCons (gName j) gNil))) D σ H :=
  s_asgG h st fun v F' H' s s' r => by
    have r' : Rv F' v (.tuple [a, b]) := r
    cases r' with
    | tup at_ all =>
      cases all with
      | cons r1 r =>
        cases r with
        | cons r2 r =>
          cases r
          exact eg_two at_ H' s.sub _ (k _ _ F' H' s s' r1 r2)
theorem ev_lenT {es : List PyData} (h : Ev T te σ F (PyData.tuple es)) : Ev T (tCB (rLenU K) (tCons te tNil)) σ F (es.length : Int) :=
  ev_cb (ea_cons h ea_nil) fun vs F1 H1 Q _ s t r q => by
    obtain ⟨v, rfl, r1⟩ := rvl1 r
    have r' : Rv F1 v (.tuple es) := r1
    cases r' with
    | tup a b =>
      refine .inl ⟨_, _, rfl, .inr (SqT.of (s _ _ a).1), ?_⟩
      rw [b.length]
      exact q _ F1 H1 (.refl s t) (.int _)
theorem ev_lenS {x : Str} (h : Ev T te σ F x) (hl : x.length ≤ 1000) : Ev T (tCB (rLenU K) (tCons te tNil)) σ F (x.length : Int) :=
  ev_cb (ea_cons h ea_nil) fun vs F1 H1 Q _ s t r q => by
    obtain ⟨v, rfl, r1⟩ := rvl1 r
    exact .inr (.inl ⟨x, by rw [rv_str r1], Nat.le_trans hl (by decide), q _ F1 H1 (.refl s t) (.int _)⟩)
/-- a loop's target x, y that takes a pair -/
theorem eg_pt {i j : Nat} {v : V} {p : Pt} (r : Rv F v (d p)) : EvG (gTup K 2 (gCons (gName i) (gCons (gName j) gNil))) v σ F ((σ.set i (some (.int p.1))).set j (some (.int p.2))) := by
  obtain ⟨q, u, w, rfl, a, r1, r2⟩ := rv_pair r
  cases rv_int r1
  cases rv_int r2
  exact eg_two a
theorem et_true : EvT T tYes σ F true := fun H s t Q q => q H (.refl s t)
theorem ei_any {xs : List α} (h : Ev T te σ F xs) : EvI T (iAny K te) σ F (xs.map d) := EvI.left (ei_list h)
theorem ei_anyT {es : List PyData} (h : Ev T te σ F (PyData.tuple es)) : EvI T (iAny K te) σ F es := EvI.right (EvI.right (ei_tuple h))
theorem ei_anyS {x : Str} (h : Ev T te σ F x) : EvI T (iAny K te) σ F ((x.cps.toList.map fun c => (⟨#[c]⟩ : Str)).map d) := by
  rw [List.map_map]
  exact EvI.right (EvI.left (ei_str h))
end
theorem hu65_of {A : Around} {k : Nat} (hr : Room k A) : A.units + 65 < cLine := by
  have := hr.un
  omega
theorem passN {X : Cx} : Passes (L2N.CX X.prog X.w) X E0 := fun _ _ _ _ _ _ _ h => by
  obtain ⟨_, _, _, _, _, _, _, _, _, _, _, _, z⟩ := h
  exact z.elim
section
variable {T : List (Addr × Str)} {α β : Type} [Dt α] [Dt β] {σ : St} {F : Hp} {te ta tb : TE} {K : PySem.W.Frag} {tt : TT} {wi : TI}
/-- [f x for name in items] -/
theorem ev_lc1N {i : Nat} {vs : List Nat} {xs : List α} {f : α → β} (h : EvI T wi σ F (xs.map d)) (hz : xs.length ≤ 100000) (each : ∀ (F1 : Hp) (x : α) (v : V), Same F F1 → x ∈ xs → Rv F1 v (d x) → Ev T te ((wipe σ vs).set i (some v)) F1 (f x))
    (hw : ∀ v, wipe ((wipe σ vs).set i (some v)) vs = wipe σ vs := by exact fun _ => rfl) : EvN T (tLc wi (gName i) tYes te vs) σ F (xs.map f) := by
  have e0 : (xs.filter fun _ => true) = xs := List.filter_eq_self.mpr fun _ _ => rfl
  have e : xs.map f = (xs.filter fun _ => true).map f := by rw [e0]
  rw [e]
  exact ev_lcN h hz fun F1 x v l hx r => ⟨_, eg_name, hw v, et_true, fun _ => each F1 x v l hx r⟩
theorem ev_lc1 {i : Nat} {vs : List Nat} {xs : List α} {f : α → β} (h : EvI T wi σ F (xs.map d)) (hz : xs.length ≤ 100000) (each : ∀ (F1 : Hp) (x : α) (v : V), Same F F1 → x ∈ xs → Rv F1 v (d x) → Ev T te ((wipe σ vs).set i (some v)) F1 (f x))
    (hw : ∀ v, wipe ((wipe σ vs).set i (some v)) vs = wipe σ vs := by exact fun _ => rfl) : Ev T (tLc wi (gName i) tYes te vs) σ F (xs.map f) := (ev_lc1N h hz each hw).ev
/-- [f x for name in items if p x] -/
theorem ev_lcFN {i : Nat} {vs : List Nat} {xs : List α} {f : α → β} {p : α → Bool} (h : EvI T wi σ F (xs.map d)) (hz : xs.length ≤ 100000)
    (each : ∀ (F1 : Hp) (x : α) (v : V), Same F F1 → x ∈ xs → Rv F1 v (d x) → EvT T tt ((wipe σ vs).set i (some v)) F1 (p x) ∧ (p x = true → Ev T te ((wipe σ vs).set i (some v)) F1 (f x)))
    (hw : ∀ v, wipe ((wipe σ vs).set i (some v)) vs = wipe σ vs := by exact fun _ => rfl) : EvN T (tLc wi (gName i) tt te vs) σ F ((xs.filter p).map f) :=
  ev_lcN h hz fun F1 x v l hx r => ⟨_, eg_name, hw v, (each F1 x v l hx r).1, (each F1 x v l hx r).2⟩
theorem ev_lcF {i : Nat} {vs : List Nat} {xs : List α} {f : α → β} {p : α → Bool} (h : EvI T wi σ F (xs.map d)) (hz : xs.length ≤ 100000)
    (each : ∀ (F1 : Hp) (x : α) (v : V), Same F F1 → x ∈ xs → Rv F1 v (d x) → EvT T tt ((wipe σ vs).set i (some v)) F1 (p x) ∧ (p x = true → Ev T te ((wipe σ vs).set i (some v)) F1 (f x)))
    (hw : ∀ v, wipe ((wipe σ vs).set i (some v)) vs = wipe σ vs := by exact fun _ => rfl) : Ev T (tLc wi (gName i) tt te vs) σ F ((xs.filter p).map f) := (ev_lcFN h hz each hw).ev
theorem ev_inS {c : Nat} {z : Str} (ha : Ev T ta σ F (⟨#[c]⟩ : Str)) (hb : Ev T tb σ F z) : Ev T (tOr2 (tOp (rInU K) ta tb) (tDIn ta tb)) σ F (decide (c ∈ z.cps.toList)) := fun H s t Q q =>
  .inl (ev_pure (r := rInU K) ha hb (z := decide (c ∈ z.cps.toList)) (fun u w F1 H1 Q s r1 r2 q => .inr (.inr ⟨c, z, rv_str r1, rv_str r2, q _ fun _ => .bl _⟩)) H s t Q q)
end
/-! ### the program's defs -/
def isDark (p : Pt) : Bool := decide ((p.1 + p.2) % 2 = 0)
def beside4 (p : Pt) : List Pt := [(p.1, p.2 - 1), (p.1 - 1, p.2), (p.1 + 1, p.2), (p.1, p.2 + 1)]
def corners4 (p : Pt) : List Pt := [(p.1, p.2), (p.1 + 1, p.2), (p.1, p.2 + 1), (p.1 + 1, p.2 + 1)]
def round4 (p : Pt) : List Pt := [(p.1 - 1, p.2 - 1), (p.1, p.2 - 1), (p.1 - 1, p.2), (p.1, p.2)]
abbrev sp_is_dark (K : PySem.W.Frag) : Sp := Pu (tabs K) (R1 isDark fun _ => True)
abbrev sp_places_beside (K : PySem.W.Frag) : Sp := Pu (tabs K) (R1 beside4 fun _ => True)
abbrev sp_corners_of (K : PySem.W.Frag) : Sp := Pu (tabs K) (R1 corners4 fun _ => True)
abbrev sp_places_round (K : PySem.W.Frag) : Sp := Pu (tabs K) (R1 round4 fun _ => True)
/-- a tuple of two -/
def isT2 : PyData → Bool
  | .tuple [_, _] => true
  | _ => false
def isPlaceD : PyData → Bool
  | .tuple [.int _, .int _] => true
  | _ => false
/-- what may be asked of type(): also the two of a tuple of two -/
def okThing (x : PyData) : Prop := plain x = true ∧ ∀ a b, x = .tuple [a, b] → plain a = true ∧ plain b = true
theorem isT2_spec {x : PyData} (h : isT2 x = true) : ∃ a b, x = .tuple [a, b] := by
  unfold isT2 at h
  split at h
  · exact ⟨_, _, rfl⟩
  · cases h
theorem place_ty (a b : PyData) : isPlaceD (.tuple [a, b]) = (decide (tyName a = "int") && decide (tyName b = "int")) := by
  cases a <;> cases b <;> simp [isPlaceD, tyName]
abbrev sp_is_place (K : PySem.W.Frag) : Sp := Pu (tabs K) (R1 isPlaceD okThing)
def inOrder (ps : List Pt) : List Pt := ps.mergeSort yx
abbrev sp_in_order (K : PySem.W.Frag) : Sp := PuN (tabs K) (R1 inOrder fun _ => True)
def sgs : Str := "#."
/-- a row: one to six of the two signs -/
def isRow (x : Str) : Bool := decide (1 ≤ (x.length : Int)) && decide ((x.length : Int) ≤ 6) && (x.cps.toList.map fun c => decide (c ∈ sgs.cps.toList)).all id
def isRowD : PyData → Bool
  | .str x => isRow x
  | _ => false
def okRow (x : PyData) : Prop := plain x = true ∧ ∀ s, x = .str s → s.length ≤ 1000
abbrev sp_is_row (K : PySem.W.Frag) : Sp := Pu (tabs K) (R1 isRowD okRow)
def lenD : PyData → Int
  | .str s => s.length
  | _ => 0
def areRowsD : PyData → Bool
  | .list xs => (decide (1 ≤ (xs.length : Int)) && decide ((xs.length : Int) ≤ 6)) && ((xs.map isRowD).all id && (xs.map fun x => decide (lenD x = lenD (xs.headD .none))).all id)
  | _ => false
def okRows (x : PyData) : Prop := plain x = true ∧ ∀ xs, x = .list xs → xs.length ≤ 1000 ∧ ∀ e ∈ xs, okRow e
theorem isRowD_str {x : PyData} (h : isRowD x = true) : ∃ s, x = .str s ∧ s.length ≤ 6 := by
  unfold isRowD at h
  split at h
  · refine ⟨_, rfl, ?_⟩
    unfold isRow at h
    simp only [Bool.and_eq_true, decide_eq_true_eq] at h
    omega
  · cases h
abbrev sp_are_rows (K : PySem.W.Frag) : Sp := Pu (tabs K) (R1 areRowsD okRows)
section
variable {T : List (Addr × Str)} {σ : St} {F : Hp} {te : TE}
theorem ev_asList {xs : List PyData} (h : Ev T te σ F (PyData.list xs)) : Ev T te σ F xs := fun H s t Q q => h H s t Q fun v F' H' st r => q v F' H' st (by
  have e : (d xs : PyData) = .list xs := by
    show PyData.list (xs.map fun x => x) = _
    rw [List.map_id']
  rw [e]
  exact r)
end
/-! ### enumerate -/
/-- (0, x), (1, y), .. -/
def enumI {α : Type} (xs : List α) : List (Int × α) := xs.zipIdx.map fun p => (((p.2 : Nat) : Int), p.1)
theorem enumI_length {α : Type} (xs : List α) : (enumI xs).length = xs.length := by simp [enumI]
theorem enumI_get {α : Type} {xs : List α} {i : Nat} {x : α} (h : xs[i]? = some x) : (enumI xs)[i]? = some ((i : Int), x) := by
  simp [enumI, h]
def signs (x : Str) : List Str := x.cps.toList.map fun c => ⟨#[c]⟩
theorem signs_ok {x z : Str} (h : PyData.strOk x = true) (hz : z ∈ signs x) : PyData.strOk z = true := by
  unfold signs at hz
  obtain ⟨c, hc, rfl⟩ := List.mem_map.mp hz
  unfold PyData.strOk at h ⊢
  rw [← Array.all_toList, List.all_eq_true] at h
  have := h c hc
  simpa using this
theorem signs_length (x : Str) : (signs x).length = x.length := by simp [signs, Str.length]
section
variable {T : List (Addr × Str)} {α β : Type} [Dt α] [Dt β] {σ : St} {F : Hp} {te ta tb : TE} {K : PySem.W.Frag}
theorem ei_enumL {xs : List α} (h : Ev T te σ F xs) : EvI T (iEnumU K (tCons te tNil)) σ F ((enumI xs).map d) := fun H s t R q => .inl (ea_cons h ea_nil H s t _ fun vs F1 H1 st r => by
  obtain ⟨v, rfl, r1⟩ := rvl1 r
  obtain ⟨p, us, rfl, a, b⟩ := rv_list r1
  have l := b.length
  rw [List.length_map] at l
  have zl : ((enumI xs).map d).length = xs.length := by rw [List.length_map, enumI_length]
  refine ⟨p, us, rfl, SqL.of (st.sub _ _ a).1, q _ F1 H1 st ⟨fun H2 s2 => ⟨us, SqL.of (s2 _ _ a).1, by omega⟩, fun i H2 s2 hi => ⟨us, us[i]'(by omega), SqL.of (s2 _ _ a).1, by simp⟩, fun i H2 v H3 s2 t2 hi y => ?_⟩⟩
  obtain ⟨A, x, rfl, hA, rfl, hx⟩ := y
  rw [zl] at hi
  have e : xs[i]? = some xs[i] := List.getElem?_eq_getElem hi
  obtain ⟨u, h1, h2⟩ := b.at_ e
  have h3 := hx us (SqL.of (s2 _ _ a).1)
  rw [h1] at h3
  cases h3
  have s3 := Step.made (o := .tup [.int ((i : Nat) : Int), x]) s2 t2 hA nt_tup
  refine ⟨d (((i : Nat) : Int), xs[i]), _, by rw [List.getElem?_map, enumI_get e]; rfl, s3, ?_⟩
  exact Rv.tup (us := [.int ((i : Nat) : Int), x]) upd_same (.cons (.int _) (.cons (h2.mono s3.ff) .nil)))
theorem ei_enumS {x : Str} (h : Ev T te σ F x) : EvI T (iEnumU K (tCons te tNil)) σ F ((enumI (signs x)).map d) := fun H s t R q => .inr (ea_cons h ea_nil H s t _ fun vs F1 H1 st r => by
  obtain ⟨v, rfl, r1⟩ := rvl1 r
  have zl : ((enumI (signs x)).map d).length = x.cps.size := by rw [List.length_map, enumI_length, signs_length]; rfl
  refine ⟨x, by rw [rv_str r1], q _ F1 H1 st ⟨fun H2 s2 => by rw [zl]; exact Nat.le_refl _, fun i H2 s2 hi => by rw [zl] at hi; exact hi, fun i H2 v H3 s2 t2 hi y => ?_⟩⟩
  obtain ⟨A, c, rfl, hA, hc, rfl⟩ := y
  have e : (signs x)[i]? = some ⟨#[c]⟩ := by
    unfold signs
    rw [List.getElem?_map, Array.getElem?_toList, hc]
    rfl
  have s3 := Step.made (o := .tup [.int ((i : Nat) : Int), .str ⟨#[c]⟩]) s2 t2 hA nt_tup
  refine ⟨d (((i : Nat) : Int), (⟨#[c]⟩ : Str)), _, by rw [List.getElem?_map, enumI_get e]; rfl, s3, ?_⟩
  exact Rv.tup (us := [.int ((i : Nat) : Int), .str ⟨#[c]⟩]) upd_same (.cons (.int _) (.cons (.str _) .nil)))
/-- a target x, y that takes a pair of a number and data -/
theorem eg_ix {i j : Nat} {v : V} {p : Int × α} (r : Rv F v (d p)) : ∃ w, Rv F w (d p.2) ∧ EvG (gTup K 2 (gCons (gName i) (gCons (gName j) gNil))) v σ F ((σ.set i (some (.int p.1))).set j (some w)) := by
  obtain ⟨q, u, w, rfl, a, r1, r2⟩ := rv_pair r
  cases rv_int r1
  exact ⟨w, r2, eg_two a⟩
end
def cellSign : Str := "#"
def cellsIn (rows : List Str) : List Pt := (enumI rows).flatMap fun q => ((enumI (signs q.2)).filter fun r => decide (r.2 = cellSign)).map fun r => (r.1, q.1)
abbrev sp_cells_in (K : PySem.W.Frag) : Sp := PuN (tabs K) (R1 cellsIn fun rows => rows.length ≤ 1000 ∧ ∀ x ∈ rows, x.length ≤ 50 ∧ PyData.strOk x = true)
end Tf

/-! The rules with the written part K by name, so that a reading in a block speaks of nothing of the block. -/
namespace Tf
open PySem PySem.Spec PyProof.Rows L2 Dt
section
variable {X : Cx} {a b e o value l tg : Expr} {es : List Expr} {ta tb te tv : TE} {t : TA} {p pos pos' apos cpos tpos : Pos} {f name : Str} {k kk n : Nat} {gs : TGs} {T id : String}
theorem opK {op : Value → Value → Sem Value} (r : PySem.W.Frag → R2) (K : PySem.W.Frag) (h : OpR X op (r X.K)) (hK : X.K = K := by rfl) : OpR X op (r K) := hK ▸ h
theorem crK {c : Value} (r : PySem.W.Frag → List V → Hp → VK → Prop) (K : PySem.W.Frag) (h : CallR X c (r X.K)) (hK : X.K = K := by rfl) : CallR X c (r K) := hK ▸ h
theorem pc_inK (K : PySem.W.Frag) (hu : X.A.units + 65 < cLine) (ha : PE X a ta) (hb : PE X b tb) (hK : X.K = K := by rfl) : PC X .In a b (tOr2 (tOp (rInU K) ta tb) (tDIn ta tb)) := hK ▸ pc_in hu ha hb
theorem pc_notinK (K : PySem.W.Frag) (hu : X.A.units + 65 < cLine) (ha : PE X a ta) (hb : PE X b tb) (hK : X.K = K := by rfl) : PC X .NotIn a b (tOr2 (tOp (rNotInU K) ta tb) (tDNotIn ta tb)) := hK ▸ pc_notin hu ha hb
theorem pe_ixK (K : PySem.W.Frag) (hu : X.A.units + 1 < cLine) (ha : PE X a ta) (hb : PE X b tb) (hs : PlainIx b := by exact fun _ _ => rfl) (hK : X.K = K := by rfl) : PE X (.Subscript a b pos) (tIxU K ta tb) := hK ▸ pe_ixU hu ha hb hs
theorem pi_anyK (K : PySem.W.Frag) (h : PE X e ta) (hK : X.K = K := by rfl) : PI X tg e (iAny K ta) := hK ▸ pi_any h
theorem pi_enumK (K : PySem.W.Frag) {elts : List Expr} (hg : Gl X "enumerate") (hm : X.mg "enumerate" = none) (ha : PA X [e] t) (hs : starEach [e] X.env = [(false, eval e X.env)] := by rfl) (hK : X.K = K := by rfl) :
    PI X (.Tuple elts kk tpos) (.Call (.Name "enumerate" p) [e] [] pos) (iEnumU K t) := hK ▸ pi_enumU hg hm ha hs
theorem pt_trK (K : PySem.W.Frag) (h : PE X e ta) (he : ∀ whole, isTrue e X.env whole = (do let v ← whole; standAt e.pos; holding [v] (truthy v)) := by intro _; rfl) (hK : X.K = K := by rfl) : PT X e (tTr K ta) := hK ▸ pt_tr h he
theorem pe_fldK (K : PySem.W.Frag) (he : PE X e ta) (hb : attributeBase e f X.env (eval e X.env) = eval e X.env := by rfl) (hK : X.K = K := by rfl) : PE X (.Attribute e f pos) (tFld K ta f) := hK ▸ pe_fld he hb
theorem ps_fldK (K : PySem.W.Frag) (ha : PE X o ta) (hv : PE X value tv) (hs : swapsWith value (some (.Attribute o f pos')) pos.line X.env = pure false := by rfl) (hK : X.K = K := by rfl) : PS X (.Assign [.Attribute o f pos'] value pos) (sFld K ta tv f) := hK ▸ ps_fld ha hv hs
theorem pg_tupK (K : PySem.W.Frag) (hc : X.calm = true) (h : PGs X es gs) (hn : (assignEach es X.env).length = n := by rfl) (hst : (assignEach es X.env).findIdx? (·.1) = none := by rfl) (hK : X.K = K := by rfl) : PG X (.Tuple es k pos) (gTup K n gs) := hK ▸ pg_tup hc h hn hst
theorem pe_bmK (K : PySem.W.Frag) {r : V → List V → Hp → VK → Prop} (pa : PlainAttrs T) (slot : Slot T name id) (hty : typeOf (.builtin id) = pure (.type "method_descriptor")) (hm : MtR X id r) (ho : PE X o ta) (ha : PA X (e :: es) t)
    (hbase : attributeBase o name X.env (eval o X.env) = eval o X.env := by rfl)
    (hfew : ((backTo cpos (starEach (e :: es) X.env)).all (fun x => !x.1) && (backToKw cpos (keywordEach [] X.env)).all (fun x => x.1.isSome) && decide ((e :: es).length + ([] : List Keyword).length + (if ([] : List Keyword).isEmpty then 0 else 1) < 30)) = true := by rfl)
    (hline : (apos.endLine == cpos.line) = true := by rfl) (hst : starEach (e :: es) X.env = (false, eval e X.env) :: starEach es X.env := by rfl) (hpl : (backTo cpos (starEach es X.env)).any (·.1) = false := by rfl) (hK : X.K = K := by rfl) :
    PE X (.Call (.Attribute o name apos) (e :: es) [] cpos) (tBM K T r ta t) := hK ▸ pe_bm pa slot hty hm ho ha hbase hfew hline hst hpl
theorem pe_bm0K (K : PySem.W.Frag) {r : V → List V → Hp → VK → Prop} (pa : PlainAttrs T) (slot : Slot T name id) (hty : typeOf (.builtin id) = pure (.type "method_descriptor")) (hm : MtR X id r) (ho : PE X o ta)
    (hbase : attributeBase o name X.env (eval o X.env) = eval o X.env := by rfl) (hline : (apos.endLine == cpos.line) = true := by rfl) (hK : X.K = K := by rfl) : PE X (.Call (.Attribute o name apos) [] [] cpos) (tBM0 K T r ta) := hK ▸ pe_bm0 pa slot hty hm ho hbase hline
end
end Tf

/-! Hanging together: what the walk over places finds. -/
namespace Tf
open PySem PySem.Spec PyProof.Rows L2 Dt
/-! ### keys of a dict -/
section
variable {ν : Type}
def Dc.keys (D : Dc ν) : List Pt := D.l.map (·.1)
theorem Dc.get_some {D : Dc ν} {k : Pt} : (D.get k).isSome = decide (k ∈ D.keys) := by
  unfold Dc.get Dc.keys
  rw [Option.isSome_map]
  refine Bool.eq_iff_iff.mpr ?_
  rw [List.find?_isSome, decide_eq_true_eq, List.mem_map]
  constructor
  · rintro ⟨a, h1, h2⟩
    exact ⟨a, h1, by simpa using h2⟩
  · rintro ⟨a, h1, h2⟩
    exact ⟨a, h1, by simpa using h2⟩
theorem Dc.put_keys (D : Dc ν) (k : Pt) (x : ν) : (D.put k x).keys = if k ∈ D.keys then D.keys else D.keys ++ [k] := by
  unfold Dc.put Dc.keys
  by_cases h : k ∈ D.l.map (·.1)
  · have h' : (D.l.any fun q => decide (q.1 = k)) = true := by
      obtain ⟨q, hq, e⟩ := List.mem_map.mp h
      exact List.any_eq_true.mpr ⟨q, hq, by simp [e]⟩
    simp only [h', if_true, if_pos h, List.map_map]
    refine List.map_congr_left fun q _ => ?_
    show (if q.1 = k then (q.1, x) else q).1 = q.1
    split <;> rfl
  · have h' : (D.l.any fun q => decide (q.1 = k)) = false := by
      refine Bool.eq_false_iff.mpr fun z => h ?_
      obtain ⟨q, hq, e⟩ := List.any_eq_true.mp z
      exact List.mem_map.mpr ⟨q, hq, by simpa using e⟩
    simp only [h', Bool.false_eq_true, if_false, if_neg h, List.map_append, List.map_cons, List.map_nil]
theorem Dc.keys_length (D : Dc ν) : D.keys.length = D.l.length := by simp [Dc.keys]
/-- the keys that are put one behind another -/
theorem keys_fold {α : Type} (fk : α → Pt) (fv : α → ν) : ∀ (xs : List α) (D : Dc ν), (∀ k, k ∈ (xs.foldl (fun a x => a.put (fk x) (fv x)) D).keys ↔ k ∈ D.keys ∨ ∃ x ∈ xs, fk x = k)
  | [], D, k => by simp
  | x :: xs, D, k => by
    rw [List.foldl_cons, keys_fold fk fv xs, Dc.put_keys]
    by_cases h : fk x ∈ D.keys
    · rw [if_pos h]
      constructor
      · rintro (z | ⟨y, hy, e⟩)
        · exact .inl z
        · exact .inr ⟨y, List.mem_cons_of_mem _ hy, e⟩
      · rintro (z | ⟨y, hy, e⟩)
        · exact .inl z
        · rcases List.mem_cons.mp hy with q | q
          · exact .inl (by rw [← e, q]; exact h)
          · exact .inr ⟨y, q, e⟩
    · rw [if_neg h, List.mem_append, List.mem_singleton]
      constructor
      · rintro ((z | z) | ⟨y, hy, e⟩)
        · exact .inl z
        · exact .inr ⟨x, List.mem_cons_self, z.symm⟩
        · exact .inr ⟨y, List.mem_cons_of_mem _ hy, e⟩
      · rintro (z | ⟨y, hy, e⟩)
        · exact .inl (.inl z)
        · rcases List.mem_cons.mp hy with q | q
          · exact .inl (.inr (by rw [← e, q]))
          · exact .inr ⟨y, q, e⟩
theorem nodup_put {D : Dc ν} {k : Pt} {x : ν} (h : D.keys.Nodup) : (D.put k x).keys.Nodup := by
  rw [Dc.put_keys]
  split
  · exact h
  · rename_i n
    refine List.nodup_append.mpr ⟨h, by simp, fun a ha b hb => ?_⟩
    rw [List.mem_singleton.mp hb]
    exact fun e => n (e ▸ ha)
theorem nodup_fold {α : Type} (fk : α → Pt) (fv : α → ν) : ∀ (xs : List α) (D : Dc ν), D.keys.Nodup → (xs.foldl (fun a x => a.put (fk x) (fv x)) D).keys.Nodup
  | [], D, h => h
  | x :: xs, D, h => nodup_fold fk fv xs _ (nodup_put h)
end
/-- the places as a dict -/
def dictOf (ps : List Pt) : Dc Bool := ps.foldl (fun a x => a.put x true) ⟨[]⟩
theorem dictOf_mem {ps : List Pt} {k : Pt} : k ∈ (dictOf ps).keys ↔ k ∈ ps := by
  unfold dictOf
  rw [keys_fold (fun x => x) fun _ => true]
  simp [Dc.keys]
theorem dictOf_nodup {ps : List Pt} : (dictOf ps).keys.Nodup := nodup_fold (fun x => x) (fun _ => true) ps _ (by simp [Dc.keys])
theorem sub_length {l m : List Pt} (h : l.Nodup) (s : ∀ x ∈ l, x ∈ m) : l.length ≤ m.length := by
  induction l generalizing m with
  | nil => simp
  | cons a l ih =>
    obtain ⟨h1, h2⟩ := List.nodup_cons.mp h
    have ha := s a List.mem_cons_self
    have := ih (m := m.erase a) h2 fun x hx => (List.mem_erase_of_ne (fun e : x = a => h1 (by rw [← e]; exact hx))).mpr (s x (List.mem_cons_of_mem _ hx))
    rw [List.length_erase_of_mem ha] at this
    have pos : 0 < m.length := List.length_pos_of_mem ha
    simp only [List.length_cons]
    omega
theorem sub_all {l m : List Pt} (h : l.Nodup) (s : ∀ x ∈ l, x ∈ m) (e : m.length ≤ l.length) : ∀ x ∈ m, x ∈ l := by
  intro x hx
  refine Classical.byContradiction fun n => ?_
  have := sub_length (l := x :: l) (m := m) (List.nodup_cons.mpr ⟨n, h⟩) fun y hy => by
    rcases List.mem_cons.mp hy with z | z
    · rw [z]; exact hx
    · exact s y z
  simp only [List.length_cons] at this
  omega
theorem dictOf_length {ps : List Pt} (h : ps.Nodup) : (dictOf ps).l.length = ps.length := by
  rw [← Dc.keys_length]
  exact Nat.le_antisymm (sub_length dictOf_nodup fun x hx => dictOf_mem.mp hx) (sub_length h fun x hx => dictOf_mem.mpr hx)
/-! ### from place to place -/
inductive Reach (ps : List Pt) (a : Pt) : Pt → Prop
  | refl : Reach ps a a
  | step {b c : Pt} (h : Reach ps a b) (n : c ∈ beside4 b) (m : c ∈ ps) : Reach ps a c
/-- every place is reached from the first -/
def Conn (ps : List Pt) : Prop := ∀ p ∈ ps, Reach ps (ps.headD (0, 0)) p
noncomputable def hang (ps : List Pt) : Bool := @decide (Conn ps) (Classical.propDecidable _)
/-- a place is looked at -/
def visit (ps : List Pt) (g : Dc Bool × List Pt) (c : Pt) : Dc Bool × List Pt := if decide (c ∈ ps) && !(g.1.get c).isSome then (g.1.put c true, g.2 ++ [c]) else g
theorem visits {ps : List Pt} : ∀ (L : List Pt) (g : Dc Bool × List Pt), ∃ new : List Pt, (L.foldl (visit ps) g).1.keys = g.1.keys ++ new ∧ (L.foldl (visit ps) g).2 = g.2 ++ new ∧ new.Nodup ∧ (∀ k ∈ new, k ∈ ps ∧ k ∈ L ∧ k ∉ g.1.keys) ∧ ∀ c ∈ L, c ∈ ps → c ∈ (L.foldl (visit ps) g).1.keys
  | [], g => ⟨[], by simp, by simp, by simp, by simp, by simp⟩
  | x :: L, g => by
    obtain ⟨new, h1, h2, h3, h4, h5⟩ := visits (ps := ps) L (visit ps g x)
    rw [List.foldl_cons]
    by_cases hx : x ∈ ps ∧ x ∉ g.1.keys
    · have ev : visit ps g x = (g.1.put x true, g.2 ++ [x]) := by
        unfold visit
        rw [Dc.get_some]
        simp [hx.1, hx.2]
      rw [ev] at h1 h2 h4 h5 ⊢
      have ek : (g.1.put x true).keys = g.1.keys ++ [x] := by
        rw [Dc.put_keys, if_neg hx.2]
      rw [ek] at h1 h4
      refine ⟨x :: new, by rw [h1]; simp, by rw [h2]; simp, List.nodup_cons.mpr ⟨fun z => (h4 x z).2.2 (by simp), h3⟩, fun k hk => ?_, fun c hc hp => ?_⟩
      · rcases List.mem_cons.mp hk with z | z
        · rw [z]
          exact ⟨hx.1, List.mem_cons_self, hx.2⟩
        · obtain ⟨q1, q2, q3⟩ := h4 k z
          exact ⟨q1, List.mem_cons_of_mem _ q2, fun y => q3 (List.mem_append_left _ y)⟩
      · rcases List.mem_cons.mp hc with z | z
        · rw [z, h1]
          simp
        · exact h5 c z hp
    · have ev : visit ps g x = g := by
        unfold visit
        rw [Dc.get_some]
        refine if_neg ?_
        simp only [Bool.and_eq_true, decide_eq_true_eq, Bool.not_eq_true', decide_eq_false_iff_not]
        exact hx
      rw [ev] at h1 h2 h4 h5 ⊢
      refine ⟨new, h1, h2, h3, fun k hk => ?_, fun c hc hp => ?_⟩
      · obtain ⟨q1, q2, q3⟩ := h4 k hk
        exact ⟨q1, List.mem_cons_of_mem _ q2, q3⟩
      · rcases List.mem_cons.mp hc with z | z
        · rw [h1]
          refine List.mem_append_left _ (Classical.byContradiction fun n => hx ⟨z ▸ hp, z ▸ n⟩)
        · exact h5 c z hp
/-- what stays true of what is reached and of what waits -/
structure Walked (ps : List Pt) (g : Dc Bool × List Pt) : Prop where
  nk : g.1.keys.Nodup
  sub : ∀ k ∈ g.1.keys, k ∈ ps
  first : ps.headD (0, 0) ∈ g.1.keys
  reach : ∀ k ∈ g.1.keys, Reach ps (ps.headD (0, 0)) k
  nw : g.2.Nodup
  wk : ∀ k ∈ g.2, k ∈ g.1.keys
  closed : ∀ k ∈ g.1.keys, k ∉ g.2 → ∀ c ∈ beside4 k, c ∈ ps → c ∈ g.1.keys
def walkM (ps : List Pt) (g : Dc Bool × List Pt) : Nat := 2 * (ps.length - g.1.keys.length) + g.2.length
/-- one turn: the last that waits is taken, its neighbours are looked at -/
def walkTurn (ps : List Pt) (R : Dc Bool) (W : List Pt) (here : Pt) : Dc Bool × List Pt := (beside4 here).foldl (visit ps) (R, W)
theorem walked_turn {ps : List Pt} {R : Dc Bool} {W : List Pt} {here : Pt} (h : Walked ps (R, W ++ [here])) (n : ps.Nodup) : Walked ps (walkTurn ps R W here) ∧ walkM ps (walkTurn ps R W here) < walkM ps (R, W ++ [here]) := by
  obtain ⟨new, h1, h2, h3, h4, h5⟩ := visits (ps := ps) (beside4 here) (R, W)
  have hk : here ∈ R.keys := h.wk here (by simp)
  have nw : (W ++ [here]).Nodup := h.nw
  obtain ⟨nw1, nw2, nw3⟩ := List.nodup_append.mp nw
  have nks : (R.keys ++ new).Nodup := List.nodup_append.mpr ⟨h.nk, h3, fun a ha b hb e => (h4 b hb).2.2 (e ▸ ha)⟩
  have subs : ∀ k ∈ R.keys ++ new, k ∈ ps := fun k hk => by
    rcases List.mem_append.mp hk with z | z
    · exact h.sub k z
    · exact (h4 k z).1
  refine ⟨⟨?_, ?_, ?_, ?_, ?_, ?_, ?_⟩, ?_⟩
  · unfold walkTurn
    rw [h1]
    exact nks
  · unfold walkTurn
    rw [h1]
    exact subs
  · unfold walkTurn
    rw [h1]
    exact List.mem_append_left _ h.first
  · unfold walkTurn
    rw [h1]
    intro k hk'
    rcases List.mem_append.mp hk' with z | z
    · exact h.reach k z
    · exact .step (h.reach here hk) (h4 k z).2.1 (h4 k z).1
  · unfold walkTurn
    rw [h2]
    exact List.nodup_append.mpr ⟨nw1, h3, fun a ha b hb e => (h4 b hb).2.2 (e ▸ h.wk a (List.mem_append_left _ ha))⟩
  · unfold walkTurn
    rw [h1, h2]
    intro k hk'
    rcases List.mem_append.mp hk' with z | z
    · exact List.mem_append_left _ (h.wk k (List.mem_append_left _ z))
    · exact List.mem_append_right _ z
  · unfold walkTurn
    intro k hk' hn c hc hp
    by_cases e : k = here
    · subst e
      exact h5 c hc hp
    · rw [h1] at hk' ⊢
      rw [h2] at hn
      rcases List.mem_append.mp hk' with z | z
      · refine List.mem_append_left _ (h.closed k z (fun y => ?_) c hc hp)
        rcases List.mem_append.mp y with y | y
        · exact hn (List.mem_append_left _ y)
        · exact e (List.mem_singleton.mp y)
      · exact absurd (List.mem_append_right _ z) hn
  · unfold walkM walkTurn
    rw [h1, h2]
    have le := sub_length nks subs
    simp only [List.length_append, List.length_singleton] at le ⊢
    omega
theorem walked_first {ps : List Pt} (h : ps ≠ []) : Walked ps (⟨[(ps.headD (0, 0), true)]⟩, [ps.headD (0, 0)]) := by
  have hm : ps.headD (0, 0) ∈ ps := by
    cases ps with
    | nil => exact absurd rfl h
    | cons a r => exact List.mem_cons_self
  have e : (⟨[(ps.headD (0, 0), true)]⟩ : Dc Bool).keys = [ps.headD (0, 0)] := rfl
  refine ⟨by rw [e]; simp, fun k hk => ?_, by rw [e]; simp, fun k hk => ?_, by simp, fun k hk => by rw [e]; exact hk, fun k hk hn => ?_⟩
  · rw [e] at hk
    rw [List.mem_singleton.mp hk]
    exact hm
  · rw [e] at hk
    rw [List.mem_singleton.mp hk]
    exact .refl
  · rw [e] at hk
    exact absurd hk hn
theorem walked_done {ps : List Pt} {R : Dc Bool} (h : Walked ps (R, [])) (n : ps.Nodup) : decide ((R.l.length : Int) = (dictOf ps).l.length) = hang ps := by
  have all : ∀ k, Reach ps (ps.headD (0, 0)) k → k ∈ R.keys := fun k r => by
    induction r with
    | refl => exact h.first
    | step _ n m ih => exact h.closed _ ih (by simp) _ n m
  unfold hang
  rw [dictOf_length n, ← Dc.keys_length]
  have e : ((R.keys.length : Int) = ps.length) ↔ Conn ps := by
    constructor
    · intro e p hp
      have e' : ps.length ≤ (R, ([] : List Pt)).1.keys.length := by
        show ps.length ≤ R.keys.length
        omega
      exact h.reach p (sub_all h.nk h.sub e' p hp)
    · intro c
      have h1 : R.keys.length ≤ ps.length := sub_length h.nk h.sub
      have h2 := sub_length n fun p hp => all p (c p hp)
      omega
  by_cases c : Conn ps
  · rw [decide_eq_true (e.mpr c)]
    exact (@decide_eq_true _ (Classical.propDecidable _) c).symm
  · rw [decide_eq_false fun z => c (e.mp z)]
    exact (@decide_eq_false _ (Classical.propDecidable _) c).symm
abbrev okPlaces (ps : List Pt) : Prop := ps ≠ [] ∧ ps.Nodup ∧ ps.length ≤ 1000
noncomputable abbrev sp_hang_together (K : PySem.W.Frag) : Sp := Pu (tabs K) (R1 hang okPlaces)
end Tf

/-! The Floor: what its making and its methods tell. -/
namespace Tf
open PySem PySem.Spec PyProof.Rows L2 Dt
def widthOf (rows : List Str) : Int := (rows.headD "").length
def without (rows : List Str) (cells : List Pt) : List Pt := (rangeI (-1) ((rows.length : Int) + 1 - -1).toNat).flatMap fun y => ((rangeI (-1) (widthOf rows + 1 - -1).toNat).filter fun x => !decide ((x, y) ∈ cells)).map fun x => (x, y)
abbrev okBox (rows : List Str) (cells : List Pt) : Prop := rows ≠ [] ∧ rows.length ≤ 50 ∧ (∀ x ∈ rows, x.length ≤ 50) ∧ cells.length ≤ 10000
abbrev sp_places_without_cell (K : PySem.W.Frag) : Sp := Pu (tabs K) (R2' without okBox)
/-! ### order, number, of the cells -/
def ltYX (p q : Pt) : Prop := p.2 < q.2 ∨ (p.2 = q.2 ∧ p.1 < q.1)
theorem ltYX_irr {p : Pt} : ¬ ltYX p p := by
  unfold ltYX
  omega
theorem nodup_lt {l : List Pt} (h : l.Pairwise ltYX) : l.Nodup := h.imp fun {a b} h e => by
  subst e
  exact ltYX_irr h
theorem enumI_sorted {α : Type} (xs : List α) : (enumI xs).Pairwise fun a b => a.1 < b.1 := by
  unfold enumI
  rw [List.pairwise_map]
  have h : (xs.zipIdx.map Prod.snd).Pairwise (· < ·) := by
    rw [List.zipIdx_map_snd]
    exact List.pairwise_lt_range'
  rw [List.pairwise_map] at h
  exact h.imp fun {a b} h => by
    show ((a.2 : Nat) : Int) < (b.2 : Nat)
    omega
theorem rangeI_sorted (lo : Int) (n : Nat) : (rangeI lo n).Pairwise (· < ·) := by
  unfold rangeI
  rw [List.pairwise_map]
  exact List.pairwise_lt_range.imp fun {a b} h => by omega
theorem cellsIn_sorted (rows : List Str) : (cellsIn rows).Pairwise ltYX := by
  unfold cellsIn
  rw [List.pairwise_flatMap]
  refine ⟨fun q _ => ?_, (enumI_sorted rows).imp fun {a b} h x hx y hy => ?_⟩
  · rw [List.pairwise_map]
    exact ((enumI_sorted (signs q.2)).filter _).imp fun {a b} h => .inr ⟨rfl, h⟩
  · obtain ⟨u, _, rfl⟩ := List.mem_map.mp hx
    obtain ⟨w, _, rfl⟩ := List.mem_map.mp hy
    exact .inl h
theorem without_sorted (rows : List Str) (cells : List Pt) : (without rows cells).Pairwise ltYX := by
  unfold without
  rw [List.pairwise_flatMap]
  refine ⟨fun q _ => ?_, (rangeI_sorted _ _).imp fun {a b} h x hx y hy => ?_⟩
  · rw [List.pairwise_map]
    exact ((rangeI_sorted _ _).filter _).imp fun {a b} h => .inr ⟨rfl, h⟩
  · obtain ⟨u, _, rfl⟩ := List.mem_map.mp hx
    obtain ⟨w, _, rfl⟩ := List.mem_map.mp hy
    exact .inl h
theorem mem_enumI {α : Type} {xs : List α} {i : Int} {x : α} : (i, x) ∈ enumI xs ↔ 0 ≤ i ∧ xs[i.toNat]? = some x := by
  unfold enumI
  rw [List.mem_map]
  constructor
  · rintro ⟨⟨y, k⟩, h, e⟩
    have h' := List.mem_zipIdx_iff_getElem?.mp h
    simp only [Prod.mk.injEq] at e
    obtain ⟨rfl, rfl⟩ := e
    exact ⟨by omega, by simpa using h'⟩
  · rintro ⟨h0, h⟩
    refine ⟨(x, i.toNat), List.mem_zipIdx_iff_getElem?.mpr h, ?_⟩
    simp only [Prod.mk.injEq, and_true]
    omega
/-- the sign at a place, where there is one -/
def signAt (rows : List Str) (p : Pt) : Option Str := (rows[p.2.toNat]?).bind fun r => (signs r)[p.1.toNat]?
theorem mem_cellsIn {rows : List Str} {p : Pt} : p ∈ cellsIn rows ↔ 0 ≤ p.1 ∧ 0 ≤ p.2 ∧ signAt rows p = some cellSign := by
  obtain ⟨x, y⟩ := p
  unfold cellsIn signAt
  simp only [List.mem_flatMap, List.mem_map, List.mem_filter, decide_eq_true_eq]
  constructor
  · rintro ⟨⟨y', r⟩, h1, ⟨x', z⟩, ⟨h2, h3⟩, e⟩
    simp only [Prod.mk.injEq] at e h3
    obtain ⟨rfl, rfl⟩ := e
    obtain ⟨a1, a2⟩ := mem_enumI.mp h1
    obtain ⟨b1, b2⟩ := mem_enumI.mp h2
    refine ⟨b1, a1, ?_⟩
    show (rows[y'.toNat]?).bind _ = _
    rw [a2]
    show (signs r)[x'.toNat]? = _
    rw [b2]
    exact congrArg some h3
  · rintro ⟨h1, h2, h3⟩
    cases e : rows[y.toNat]? with
    | none =>
      rw [show rows[(x, y).2.toNat]? = none from e] at h3
      cases h3
    | some r =>
      rw [show rows[(x, y).2.toNat]? = some r from e] at h3
      exact ⟨(y, r), mem_enumI.mpr ⟨h2, e⟩, (x, cellSign), ⟨mem_enumI.mpr ⟨h1, h3⟩, rfl⟩, rfl⟩
theorem mem_rangeI {lo x : Int} {n : Nat} : x ∈ rangeI lo n ↔ lo ≤ x ∧ x < lo + n := by
  unfold rangeI
  simp only [List.mem_map, List.mem_range]
  constructor
  · rintro ⟨k, h, rfl⟩
    omega
  · intro h
    exact ⟨(x - lo).toNat, by omega, by omega⟩
theorem mem_without {rows : List Str} {cells : List Pt} {p : Pt} : p ∈ without rows cells ↔ (-1 ≤ p.1 ∧ p.1 ≤ widthOf rows) ∧ (-1 ≤ p.2 ∧ p.2 ≤ rows.length) ∧ p ∉ cells := by
  obtain ⟨x, y⟩ := p
  have w0 : 0 ≤ widthOf rows := by
    unfold widthOf
    omega
  unfold without
  simp only [List.mem_flatMap, List.mem_map, List.mem_filter, mem_rangeI]
  constructor
  · rintro ⟨y', h1, x', ⟨h2, h3⟩, e⟩
    simp only [Prod.mk.injEq] at e
    obtain ⟨rfl, rfl⟩ := e
    refine ⟨by omega, by omega, ?_⟩
    simpa using h3
  · rintro ⟨h1, h2, h3⟩
    exact ⟨y, by omega, x, ⟨by omega, by simpa using h3⟩, rfl⟩
theorem cellsIn_lengthM {rows : List Str} {m : Nat} (h2 : ∀ x ∈ rows, x.length ≤ m) : (cellsIn rows).length ≤ rows.length * m := by
  unfold cellsIn
  have key : ∀ l : List (Int × Str), (∀ q ∈ l, q.2.length ≤ m) → (l.flatMap fun q => ((enumI (signs q.2)).filter fun r => decide (r.2 = cellSign)).map fun r => (r.1, q.1)).length ≤ l.length * m := by
    intro l
    induction l with
    | nil => intro _; simp
    | cons q l ih =>
      intro hq
      have a := ih fun z hz => hq z (List.mem_cons_of_mem _ hz)
      have b := hq q List.mem_cons_self
      have c := List.length_filter_le (fun r : Int × Str => decide (r.2 = cellSign)) (enumI (signs q.2))
      rw [enumI_length, signs_length] at c
      rw [List.flatMap_cons, List.length_append, List.length_map, List.length_cons, Nat.succ_mul]
      omega
  refine Nat.le_trans (key _ fun q hq => ?_) ?_
  · obtain ⟨i, x⟩ := q
    exact h2 x (List.mem_of_getElem? (mem_enumI.mp hq).2)
  · rw [enumI_length]
    exact Nat.le_refl _
theorem cellsIn_length {rows : List Str} (h1 : rows.length ≤ 50) (h2 : ∀ x ∈ rows, x.length ≤ 50) : (cellsIn rows).length ≤ 2500 := by
  have := cellsIn_lengthM h2
  omega
theorem without_length {rows : List Str} {cells : List Pt} (h1 : rows.length ≤ 6) (h2 : widthOf rows ≤ 6) : (without rows cells).length ≤ 64 := by
  unfold without
  have key : ∀ l : List Int, (l.flatMap fun y => ((rangeI (-1) (widthOf rows + 1 - -1).toNat).filter fun x => !decide ((x, y) ∈ cells)).map fun x => ((x, y) : Pt)).length ≤ l.length * 8 := by
    intro l
    induction l with
    | nil => simp
    | cons y l ih =>
      have c := List.length_filter_le (fun x : Int => !decide ((x, y) ∈ cells)) (rangeI (-1) (widthOf rows + 1 - -1).toNat)
      rw [rangeI_length] at c
      rw [List.flatMap_cons, List.length_append, List.length_map, List.length_cons]
      omega
  refine Nat.le_trans (key _) ?_
  rw [rangeI_length]
  omega
/-! ### what a floor is -/
/-- rows of one length, one to six, of the two signs -/
structure Rows (rows : List Str) : Prop where
  ne : rows ≠ []
  len : rows.length ≤ 6
  row : ∀ r ∈ rows, isRow r = true
  same : ∀ r ∈ rows, (r.length : Int) = widthOf rows
theorem Rows.one {rows : List Str} (h : Rows rows) {r : Str} (hr : r ∈ rows) : 1 ≤ r.length ∧ r.length ≤ 6 := by
  have := h.row r hr
  unfold isRow at this
  simp only [Bool.and_eq_true, decide_eq_true_eq] at this
  omega
theorem cells36 {rows : List Str} (h : Rows rows) : (cellsIn rows).length ≤ 36 := by
  have := cellsIn_lengthM (m := 6) fun x hx => (h.one hx).2
  have := h.len
  omega
theorem isRow_ok {r : Str} (h : isRow r = true) : PyData.strOk r = true := by
  unfold isRow at h
  simp only [Bool.and_eq_true, List.all_eq_true, List.mem_map, id] at h
  unfold PyData.strOk
  rw [← Array.all_toList, List.all_eq_true]
  intro c hc
  have e := h.2 _ ⟨c, hc, rfl⟩
  have e2 : c ∈ sgs.cps.toList := by simpa using e
  have e3 : sgs.cps.toList = [35, 46] := by decide +kernel
  rw [e3] at e2
  simp only [List.mem_cons, List.not_mem_nil, or_false] at e2
  rcases e2 with z | z <;> subst z <;> decide
theorem rows_of {x : PyData} (h : areRowsD x = true) : ∃ rows : List Str, x = d rows ∧ Rows rows := by
  unfold areRowsD at h
  split at h
  · rename_i xs
    simp only [Bool.and_eq_true, decide_eq_true_eq] at h
    obtain ⟨⟨h1, h2⟩, h3, h4⟩ := h
    have hr : ∀ y ∈ xs, isRowD y = true := fun y hy => by
      have := List.all_eq_true.mp h3 (isRowD y) (List.mem_map.mpr ⟨y, hy, rfl⟩)
      simpa using this
    obtain ⟨rows, rfl⟩ : ∃ rows : List Str, xs = rows.map d := by
      clear h1 h2 h3 h4
      induction xs with
      | nil => exact ⟨[], rfl⟩
      | cons a l ih =>
        obtain ⟨rows, rfl⟩ := ih fun y hy => hr y (List.mem_cons_of_mem _ hy)
        obtain ⟨s, rfl, _⟩ := isRowD_str (hr a List.mem_cons_self)
        exact ⟨s :: rows, rfl⟩
    rw [List.length_map] at h1 h2
    refine ⟨rows, rfl, ?_, by omega, fun r hr' => hr (d r) (List.mem_map.mpr ⟨r, hr', rfl⟩), fun r hr' => ?_⟩
    · intro e
      subst e
      simp at h1
    · have := List.all_eq_true.mp h4 _ (List.mem_map.mpr ⟨d r, List.mem_map.mpr ⟨r, hr', rfl⟩, rfl⟩)
      simp only [id, decide_eq_true_eq] at this
      cases rows with
      | nil => cases hr'
      | cons a l => exact this
  · cases h
theorem rows_are {rows : List Str} (h : Rows rows) : areRowsD (d rows) = true := by
  show areRowsD (.list (rows.map d)) = true
  unfold areRowsD
  simp only [Bool.and_eq_true, decide_eq_true_eq, List.length_map]
  have pos : 0 < rows.length := List.length_pos_iff.mpr h.ne
  have := h.len
  refine ⟨⟨by omega, by omega⟩, ?_, ?_⟩
  · refine List.all_eq_true.mpr fun b hb => ?_
    obtain ⟨y, hy, rfl⟩ := List.mem_map.mp hb
    obtain ⟨r, hr, rfl⟩ := List.mem_map.mp hy
    exact h.row r hr
  · refine List.all_eq_true.mpr fun b hb => ?_
    obtain ⟨y, hy, rfl⟩ := List.mem_map.mp hb
    obtain ⟨r, hr, rfl⟩ := List.mem_map.mp hy
    have e := h.same r hr
    simp only [id, decide_eq_true_eq]
    cases rows with
    | nil => cases hr
    | cons a l => exact e
/-- why rows are no floor -/
noncomputable def judge (rows : List Str) : Option String :=
  if cellsIn rows = [] then some "BadFloor" else if hang (cellsIn rows) = false then some "Parted" else if hang (without rows (cellsIn rows)) = false then some "Holed" else none
noncomputable def judgeD (x : PyData) : Option String := match x with
  | .list xs => if areRowsD (.list xs) = false then some "BadFloor" else judge (xs.map fun e => match e with
    | .str s => s
    | _ => "")
  | _ => some "BadFloor"
theorem judgeD_rows {rows : List Str} (h : areRowsD (d rows) = true) : judgeD (d rows) = judge rows := by
  show judgeD (.list (rows.map d)) = _
  unfold judgeD
  have h' : areRowsD (.list (rows.map d)) = true := h
  simp only [h', Bool.true_eq_false, if_false, List.map_map]
  congr 1
  conv => rhs; rw [← List.map_id rows]
  rfl
theorem judgeD_bad {x : PyData} (h : areRowsD x = false) : judgeD x = some "BadFloor" := by
  unfold judgeD
  split
  · rw [if_pos h]
  · rfl
def flOf (C : Addr) (rows : List Str) : Fl := ⟨C, rows, cellsIn rows, dictOf (cellsIn rows)⟩
/-- its two lists are new -/
def FlNew (F HB : Hp) (p : Addr) : Prop := ∃ C dx a b u3, F p = some (.ins C dx [("_rows", .ref a), ("_cells", .ref b), ("_known", u3)]) ∧ HB a = none ∧ HB b = none
/-- the making of a Floor -/
noncomputable def sp_Floor_m_init (K : PySem.W.Frag) : Sp := fun vs H Q E => ∃ (F HB : Hp) (p dx : Addr) (v : V) (x : PyData), vs = [.ref p, v] ∧ H = upd (upd HB dx (.own p)) p (.ins (He.ga K "Floor") dx []) ∧ HB p = none ∧ HB dx = none ∧ dx ≠ p ∧ Sub F HB ∧ LamX.Tabs (tabs K) HB ∧ Rv F v x ∧ okRows x ∧
  (∀ c, judgeD x = some c → ∀ H', Step (tabs K) F F HB H' → E (.ref (He.ga K c)) none H') ∧
  (∀ rows : List Str, x = d rows → judgeD x = none → ∀ F' H', Step (tabs K) F F' HB H' → Rv F' (.ref p) (d (flOf (He.ga K "Floor") rows)) → FlNew F' HB p → Q .non H')
theorem len_init {K : PySem.W.Frag} {vs : List V} {H : Hp} {Q : VK} {E : XK} (h : sp_Floor_m_init K vs H Q E) : vs.length = 2 := by
  obtain ⟨F, HB, p, dx, v, x, rfl, _⟩ := h
  rfl
/-! ### the methods -/
abbrev isFl (K : PySem.W.Frag) (f : Fl) : Prop := f.cls = He.ga K "Floor"
def ptD : PyData → Pt
  | .tuple [.int a, .int b] => (a, b)
  | _ => (0, 0)
theorem place_pt {x : PyData} (h : isPlaceD x = true) : x = d (ptD x) := by
  unfold isPlaceD at h
  split at h
  · rfl
  · cases h
theorem place_of (p : Pt) : isPlaceD (d p) = true := rfl
theorem ptD_of (p : Pt) : ptD (d p) = p := rfl
theorem okThing_pt (p : Pt) : okThing (d p) := ⟨rfl, fun a b e => by
  have e' : PyData.tuple [.int p.1, .int p.2] = .tuple [a, b] := e
  injection e' with e1
  injection e1 with e2 e3
  injection e3 with e3 _
  subst e2 e3
  exact ⟨rfl, rfl⟩⟩
def inK (f : Fl) (p : Pt) : Bool := (f.known.get p).isSome
def hasD (f : Fl) (x : PyData) : Bool := isPlaceD x && inK f (ptD x)
def besideOf (f : Fl) (p : Pt) : List Pt := (beside4 p).filter (inK f)
def isInner (f : Fl) (p : Pt) : Bool := ((round4 p).map (inK f)).all id
def cornersD (cells : List Pt) : Dc Bool := cells.foldl (fun a x => (corners4 x).foldl (fun a y => a.put y true) a) ⟨[]⟩
def cornersOf (f : Fl) : List Pt := inOrder (cornersD f.cells).keys
def innerOf (f : Fl) : List Pt := (cornersOf f).filter (isInner f)
abbrev sp_Floor_m_rows (K : PySem.W.Frag) : Sp := PuN (tabs K) (R1 Fl.rows (isFl K))
abbrev sp_Floor_m_cells (K : PySem.W.Frag) : Sp := PuN (tabs K) (R1 Fl.cells (isFl K))
abbrev sp_Floor_m_has (K : PySem.W.Frag) : Sp := Pu (tabs K) (R2' hasD fun f x => isFl K f ∧ okThing x)
abbrev sp_Floor_m_is_inner (K : PySem.W.Frag) : Sp := Pu (tabs K) (R2' isInner fun f _ => isFl K f)
abbrev okFl (K : PySem.W.Frag) (f : Fl) : Prop := isFl K f ∧ f.cells.length ≤ 2500
abbrev sp_Floor_m_corners (K : PySem.W.Frag) : Sp := PuN (tabs K) (R1 cornersOf (okFl K))
abbrev sp_Floor_m_inner (K : PySem.W.Frag) : Sp := PuN (tabs K) (R1 innerOf (okFl K))
def sp_Floor_m_beside (K : PySem.W.Frag) : Sp := fun vs H Q E => ∃ (F : Hp) (f : Fl) (x : PyData) (v w : V), vs = [v, w] ∧ Sub F H ∧ LamX.Tabs (tabs K) H ∧ Rv F v (d f) ∧ Rv F w x ∧ isFl K f ∧ okThing x ∧
  (∀ p : Pt, x = d p → inK f p = true → ∀ u F' H', Step (tabs K) F F' H H' → Rv F' u (d (besideOf f p)) → (∀ q, u = .ref q → H q = none) → Q u H') ∧ (hasD f x = false → ∀ H', Step (tabs K) F F H H' → E (.ref (He.ga K "NoCell")) none H')
theorem len_beside {K : PySem.W.Frag} {vs : List V} {H : Hp} {Q : VK} {E : XK} (h : sp_Floor_m_beside K vs H Q E) : vs.length = 2 := by
  obtain ⟨F, f, x, v, w, rfl, _⟩ := h
  rfl
theorem corners_len : ∀ (cells : List Pt) (a : Dc Bool), (cells.foldl (fun a x => (corners4 x).foldl (fun a y => a.put y true) a) a).l.length ≤ a.l.length + cells.length * 4
  | [], a => by simp
  | x :: xs, a => by
    have h1 := corners_len xs ((corners4 x).foldl (fun a y => a.put y true) a)
    have h2 : ((corners4 x).foldl (fun a y => a.put y true) a).l.length ≤ a.l.length + 4 := by
      unfold corners4
      simp only [List.foldl_cons, List.foldl_nil]
      have p := fun (D : Dc Bool) k => Dc.put_len D k true
      have a1 := p a (x.1, x.2)
      have a2 := p (a.put (x.1, x.2) true) (x.1 + 1, x.2)
      have a3 := p ((a.put (x.1, x.2) true).put (x.1 + 1, x.2) true) (x.1, x.2 + 1)
      have a4 := p (((a.put (x.1, x.2) true).put (x.1 + 1, x.2) true).put (x.1, x.2 + 1) true) (x.1 + 1, x.2 + 1)
      omega
    rw [List.foldl_cons, List.length_cons]
    omega
end Tf

/-! sorted with a def as its key; the law's script. -/
namespace Tf
open PySem PySem.Spec PyProof.Rows L2 Dt
theorem pe_sortDef {X : Cx} {T : List (Addr × Str)} {a : Expr} {ta : TA} {x kn qual : Str} {params : Arguments} {scope : Scope} {fk : Addr} {fd : FuncData} {p pos lp kp p1 p2 p3 p4 p5 p6 p7 p8 : Pos} {y z k0 k : Nat} (K : PySem.W.Frag) (hm : X.mg "sorted" = none) (ha : PA X [a] ta) (hr : Room k X.A)
    (F : FunD X.K kn qual params [.Return (some (.Tuple [.Subscript (.Name x p1) (.Constant (.int 1) y p2) p3, .Subscript (.Name x p4) (.Constant (.int 0) z p5) p6] k0 p7)) p8] scope [] [] fk fd) (bi : Binds X.K fd [x] []) (S : FnScope [x] [x] scope) (gk : X.mg kn = some (.ref fk))
    (hx : scope.names.lookup x = some .local) (hd : (x == ("__debug__" : Str)) = false := by decide) (hdk : (kn == ("__debug__" : Str)) = false := by decide)
    (hg : Gl X "sorted" := by rfl) (hgk : Gl X kn := by rfl) (he : starEach [a] X.env = [(false, eval a X.env)] := by rfl) (hK : X.K = K := by rfl) :
    PE X (.Call (.Name "sorted" p) [a] [⟨some "key", .Name kn lp, kp⟩] pos) (tSortP T K ta) := by
  subst hK
  refine ⟨fun pins s σ H Q I h => ?_⟩
  have hv : bootBuiltins ("sorted" : Str) = some (.builtin "sorted") := by decide +kernel
  refine wpAny_Call_Name_kw (ld_blt I hg hm hv ?_ (by decide) (by decide))
  have hb : backTo pos (starEach [a] X.env) = (false, eval a X.env) :: backTo pos (starEach [] X.env) := by
    rw [he]
    rfl
  have hb1 : (backTo pos (starEach [a] X.env)).any (·.1) = false := by
    rw [hb]
    rfl
  refine PyProof.Rows.callWith_kw (e := a) (rest := []) ?_ hb hb1 (by rfl) (by rfl)
  refine thn (ha.run pos pins s σ H _ I h) fun us s1 hq => ?_
  obtain ⟨vs, H1, I1, rv, t1, l, ys, rfl, hs, hp, q⟩ := hq
  obtain rfl := Vals.ref1 rv
  show wpAny _ _ (evalAll [do let v ← eval (.Name kn lp) X.env; standAt pos; pure v]) _ _ s1
  refine wpAny_evalAll_cons (wpAny_bind (ld_glob I1 hgk gk (wpAny_bind (wpAny_standAt (wpAny_pure (wpAny_evalAll_nil ?_)))) hdk))
  show wpAny _ _ (call (.builtin "sorted") [.ref l] [(Str.ofString "key", .ref fk)]) _ _ s1
  refine sort_run (key := keyAt H1) I1 hs (by have := hr.un; omega) (fun u hu2 v ru h tk kp => ?_) fun p hp2 => q H1 (Ext.refl _) t1 p hp2
  obtain ⟨t, i, j, rfl, ht⟩ := hp u hu2
  cases ru
  obtain ⟨_, its, ri, o, o1, o2, n, o3⟩ := (show ObjOk X.prog X.w H1 s1.heap t (.tup [.int i, .int j]) from I1.hok t _ ht)
  obtain ⟨ti, tj, rfl⟩ := Vals.int2 ri
  have ke : keyAt H1 (.ref t) = (j, i) := by simp only [keyAt, ht]
  rw [ke]
  have tt : IsTup ({ s1 with heap := h, toks := tk } : Shared).heap t #[.int i ti, .int j tj] := ⟨o, kp _ _ o1, o2, n, o3⟩
  exact def_key (i := 1) (j := 0) (s := { s1 with heap := h, toks := tk }) F bi S (fun _ _ e => kp _ _ (I1.kIn _ _ e)) (I1.nolimit.keeps kp) hr.depth hx hd tt rfl rfl (by show 2 < 1000; decide)
/-! ### the script -/
/-- v is the list of the numbers ns -/
def Sc (K : PySem.W.Frag) (F : Hp) (v : V) (ns : List Int) : Prop := ∃ a, v = .ref a ∧ SqL K F a (ns.map V.int)
section
variable {T : List (Addr × Str)} {α β : Type} [Dt α] [Dt β] {σ : St} {F G H : Hp} {te ta tb : TE} {K : PySem.W.Frag} {E : XK} {v : V} {ns : List Int}
theorem sqL_mono {a : Addr} {xs : List V} (l : Same F G) (h : SqL K F a xs) : SqL K G a xs := by
  rcases h with z | z
  · rcases z with z | ⟨o, z⟩
    · exact .inl (.inl (l _ _ z))
    · exact .inl (.inr ⟨o, l _ _ z⟩)
  · exact .inr z
theorem Sc.mono (l : Same F G) (h : Sc K F v ns) : Sc K G v ns := by
  obtain ⟨a, e, z⟩ := h
  exact ⟨a, e, sqL_mono l z⟩
theorem ev_lenC {i : Nat} (h : σ[i]? = some (some v)) (r : Sc K F v ns) : Ev T (tCB (rLenU K) (tCons (tVar i) tNil)) σ F (ns.length : Int) := fun H s t Q q => by
  obtain ⟨a, rfl, z⟩ := r
  refine ⟨_, h, .inl ⟨a, _, rfl, .inl (sqL_mono s.same z), ?_⟩⟩
  rw [List.length_map]
  exact q _ F H (.refl s t) (.int _)
theorem ev_ixC {i : Nat} {k x : Int} (h : σ[i]? = some (some v)) (r : Sc K F v ns) (hb : Ev T tb σ F k) (h0 : 0 ≤ k) (hx : ns[k.toNat]? = some x) : Ev T (tIxU K (tVar i) tb) σ F x := fun H s t Q q => by
  obtain ⟨a, rfl, z⟩ := r
  refine .inl ⟨_, h, hb H s t _ fun w F1 H1 st r1 => ?_⟩
  cases rv_int r1
  exact .inl ⟨a, _, k, .int x, rfl, rfl, sqL_mono (st.ff.trans st.sub.same) z, atI_get? h0 (by rw [List.getElem?_map, hx]; rfl), q _ F1 H1 st (.int _)⟩
/-- a def of the script and a number -/
def PuC2 (T : List (Addr × Str)) (K : PySem.W.Frag) (f : List Int → Int → β) (pre : List Int → Int → Prop) : Sp := fun vs H Q _ => ∃ (F : Hp) (v : V) (ns : List Int) (k : Int), vs = [v, .int k] ∧ Sub F H ∧ LamX.Tabs T H ∧ Sc K F v ns ∧ pre ns k ∧ ∀ u F' H', Step T F F' H H' → Rv F' u (d (f ns k)) → Q u H'
def PuC1 (T : List (Addr × Str)) (K : PySem.W.Frag) (f : List Int → β) : Sp := fun vs H Q _ => ∃ (F : Hp) (v : V) (ns : List Int), vs = [v] ∧ Sub F H ∧ LamX.Tabs T H ∧ Sc K F v ns ∧ ∀ u F' H', Step T F F' H H' → Rv F' u (d (f ns)) → Q u H'
theorem lenC2 {f : List Int → Int → β} {pre : List Int → Int → Prop} {vs : List V} {Q : VK} (h : PuC2 T K f pre vs H Q E) : vs.length = 2 := by
  obtain ⟨F, v, ns, k, rfl, _⟩ := h
  rfl
theorem lenC1 {f : List Int → β} {vs : List V} {Q : VK} (h : PuC1 T K f vs H Q E) : vs.length = 1 := by
  obtain ⟨F, v, ns, rfl, _⟩ := h
  rfl
theorem ev_callC2 {f : List Int → Int → β} {pre : List Int → Int → Prop} {i : Nat} {k : Int} (h : σ[i]? = some (some v)) (r : Sc K F v ns) (hb : Ev T tb σ F k) (hp : pre ns k) : Ev T (tCall (PuC2 T K f pre) [] E (tCons (tVar i) (tCons tb tNil))) σ F (f ns k) := fun H s t Q q =>
  ⟨_, h, ea_cons hb ea_nil H s t _ fun ws F1 H1 st r1 => by
    obtain ⟨w, rfl, r2⟩ := rvl1 r1
    cases rv_int r2
    exact ⟨F1, v, ns, k, rfl, st.sub, st.tab, r.mono st.ff, hp, fun u F' H' s2 rv => q u F' H' (st.trans s2) rv⟩⟩
theorem ev_callC1 {f : List Int → β} {i : Nat} (h : σ[i]? = some (some v)) (r : Sc K F v ns) : Ev T (tCall (PuC1 T K f) [] E (tCons (tVar i) tNil)) σ F (f ns) := fun H s t Q q =>
  ⟨_, h, F, v, ns, rfl, s, t, r, fun u F' H' s2 rv => q u F' H' s2 rv⟩
end
def cellAt (ns : List Int) (k : Int) : Int := (ns[k.toNat]?).getD 0
def mixed (n k : Int) : Int := (n * 48271 + 7919 * k + 11) % 2147483647
abbrev sp__law_cell_at (K : PySem.W.Frag) : Sp := PuC2 (tabs K) K cellAt fun _ k => 0 ≤ k
abbrev sp__law_mixed (K : PySem.W.Frag) : Sp := Pu (tabs K) (R2' mixed fun _ _ => True)
def truth (a b : Bool) : Bool := decide (a = b)
abbrev sp__law_truth (K : PySem.W.Frag) : Sp := Pu (tabs K) (R2' truth fun _ _ => True)
end Tf

/-! Texts of # and ., as lists of truths. -/
namespace Tf
open PySem PySem.Spec PyProof.Rows L2 Dt
def sg (b : Bool) : Nat := if b then 35 else 46
/-- the text of the signs bs -/
def txt (bs : List Bool) : Str := ⟨(bs.map sg).toArray⟩
theorem txt_len (bs : List Bool) : (txt bs).length = bs.length := by simp [txt, Str.length]
theorem txt_app (a b : List Bool) : txt a ++ txt b = txt (a ++ b) := by
  show Str.append _ _ = _
  simp [Str.append, txt]
theorem fold_rep (a : List Nat) : ∀ (n : Nat) (acc : Array Nat), (List.replicate n a.toArray).foldl (· ++ ·) acc = acc ++ ((List.replicate n a).flatten).toArray
  | 0, acc => by simp
  | n + 1, acc => by
    rw [List.replicate_succ, List.foldl_cons, fold_rep a n, List.replicate_succ, List.flatten_cons]
    simp
theorem mul_txt (b : Bool) (n : Int) : Txt.mul (txt [b]) n = txt (List.replicate n.toNat b) := by
  unfold Txt.mul
  by_cases h : n < 1
  · rw [if_pos h]
    have : n.toNat = 0 := by omega
    rw [this]
    rfl
  · rw [if_neg h]
    by_cases h1 : n = 1
    · subst h1
      rfl
    · have e : (n == 1 || (txt [b]).length == 0) = false := by
        rw [txt_len]
        simp [h1]
      rw [e]
      simp only [Bool.false_eq_true, if_false]
      have z := fold_rep [sg b] n.toNat #[]
      show Str.mk ((List.replicate n.toNat [sg b].toArray).foldl (· ++ ·) #[]) = _
      rw [z]
      simp [txt]
/-- a row of signs -/
structure Row where
  bs : List Bool
instance : Dt Row := ⟨fun r => .str (txt r.bs)⟩
theorem Row.d_eq (r : Row) : (d r : PyData) = d (txt r.bs) := rfl
theorem glue_fold : ∀ (rs : List (List Bool)) (a : List Bool), ((rs.map txt).foldl (fun acc p => acc ++ (Str.empty : Str).cps ++ p.cps) (txt a).cps) = (txt (a ++ rs.flatten)).cps
  | [], a => by simp
  | r :: rs, a => by
    have e : (txt a).cps ++ (Str.empty : Str).cps ++ (txt r).cps = (txt (a ++ r)).cps := by
      have h := congrArg Str.cps (txt_app a r)
      have h2 : (Str.empty : Str).cps = #[] := rfl
      rw [h2, Array.append_empty]
      exact h
    rw [List.map_cons, List.foldl_cons, e, glue_fold rs (a ++ r)]
    simp
theorem join_txt (rs : List (List Bool)) : Txt.join Str.empty (rs.map txt) = txt rs.flatten := by
  cases rs with
  | nil => rfl
  | cons a r =>
    show Str.mk (((a :: r).map txt |>.drop 1).foldl (fun acc p => acc ++ (Str.empty : Str).cps ++ p.cps) (((a :: r).map txt).headD Str.empty).cps) = _
    have h := glue_fold r a
    simp only [List.map_cons, List.drop_one, List.tail_cons, List.headD_cons]
    rw [h]
    rfl
def rJoin (K : PySem.W.Frag) : V → List V → Hp → VK → Prop := fun x xs H Q => ∃ a p, ∃ ys : List Str, x = .str a ∧ xs = [.ref p] ∧ (SqL K H p (ys.map V.str) ∨ SqT K H p (ys.map V.str)) ∧ (ys.map (·.length)).sum + ys.length * a.length ≤ 16777216 ∧ Q (.str (Txt.join a ys)) H
theorem pe_joinK {X : Cx} {o e : Expr} {to te : TE} {apos pos : Pos} (K : PySem.W.Frag) (ho : PE X o to) (he : PE X e te) (hs : starEach [e] X.env = [(false, eval e X.env)] := by rfl) (hbase : attributeBase o "join" X.env (eval o X.env) = eval o X.env := by rfl) (hline : (apos.endLine == pos.line) = true := by rfl) (hK : X.K = K := by rfl) :
    PE X (.Call (.Attribute o "join" apos) [e] [] pos) (tM1 (rJoin K) to te) := hK ▸ pe_join ho he hs hbase hline
section
variable {T : List (Addr × Str)} {σ : St} {F : Hp} {te ta tb : TE} {K : PySem.W.Frag}
theorem rvl_rows {F : Hp} : ∀ {us : List V} {rs : List Row}, RvL F us (rs.map d) → us = (rs.map fun r => txt r.bs).map V.str
  | _, [], h => by
    cases h
    rfl
  | _, r :: rs, h => by
    cases h with
    | cons a m =>
      rw [rvl_rows m]
      have e := rv_str (i := txt r.bs) a
      rw [e]
      rfl
theorem ev_joinR {rs : List Row} (h : Ev T te σ F rs) (hz : (rs.map fun r => r.bs.length).sum ≤ 1000000) : Ev T (tM1 (rJoin K) (tC (.str "")) te) σ F (⟨(rs.map Row.bs).flatten⟩ : Row) := fun H s t Q q =>
  ⟨⟨_, rfl⟩, h H s t _ fun v F1 H1 st r => by
    obtain ⟨p, us, rfl, a, b⟩ := rv_list r
    rw [rvl_rows b] at a
    have e1 : (Str.ofString "" : Str) = Str.empty := rfl
    refine ⟨Str.empty, p, rs.map fun r => txt r.bs, rfl, rfl, .inl (SqL.of (st.sub _ _ a).1), ?_, ?_⟩
    · have e2 : ((rs.map fun r => txt r.bs).map fun x : Str => x.length) = rs.map fun r => r.bs.length := by
        rw [List.map_map]
        exact List.map_congr_left fun r _ => txt_len _
      rw [e2]
      have e3 : (Str.empty : Str).length = 0 := rfl
      rw [e3]
      omega
    · have e2 : (rs.map fun r => txt r.bs) = (rs.map Row.bs).map txt := by rw [List.map_map]; rfl
      rw [e2, join_txt]
      exact q _ F1 H1 st (.str _)⟩
theorem ev_ixR {r : Row} {i : Int} {b : Bool} (ha : Ev T ta σ F r) (hb : Ev T tb σ F i) (h0 : 0 ≤ i) (hl : r.bs.length ≤ 1000) (h : r.bs[i.toNat]? = some b) : Ev T (tIxU K ta tb) σ F (⟨[b]⟩ : Row) := fun H s t Q q =>
  .inl (ev_pure (r := L2.rIx K) ha hb (z := (⟨[b]⟩ : Row)) (fun u w F1 H1 Q s r1 r2 q => by
    have e := rv_str (i := txt r.bs) r1
    refine .inr (.inr ⟨txt r.bs, i, sg b, e, rv_int r2, ?_, atI_get? h0 ?_, q _ fun G => .str _⟩)
    · rw [txt_len]
      exact Nat.le_trans hl (by decide)
    · simp [txt, h]) H s t Q q)
theorem ev_lenR {r : Row} (h : Ev T te σ F r) (hl : r.bs.length ≤ 1000) : Ev T (tCB (rLenU K) (tCons te tNil)) σ F (r.bs.length : Int) := by
  have z := ev_lenS (K := K) (x := txt r.bs) h (by rw [txt_len]; exact hl)
  rw [txt_len] at z
  exact z
theorem ev_row {s : Str} {r : Row} (e : s = txt r.bs) : Ev T (tC (.str s)) σ F r := by
  subst e
  exact fun H s t Q q => q _ F H (.refl s t) (.str _)
theorem ev_catR {a b : Row} (ha : Ev T ta σ F a) (hb : Ev T tb σ F b) (hl : a.bs.length + b.bs.length ≤ 1000) : Ev T (tOp rAddU ta tb) σ F (⟨a.bs ++ b.bs⟩ : Row) :=
  ev_pure ha hb fun u w F1 H1 Q s r1 r2 q => .inr (.inl ⟨txt a.bs, txt b.bs, rv_str (i := txt a.bs) r1, rv_str (i := txt b.bs) r2, by rw [txt_len, txt_len]; exact Nat.le_trans hl (by decide), by rw [txt_app]; exact q _ fun G => .str _⟩)
theorem ev_mulR {c : Bool} {n : Int} (ha : Ev T ta σ F (⟨[c]⟩ : Row)) (hb : Ev T tb σ F n) (h1 : n ≤ 4096) (h2 : -(2 ^ 63) ≤ n) : Ev T (tOp rMulU ta tb) σ F (⟨List.replicate n.toNat c⟩ : Row) :=
  ev_pure ha hb fun u w F1 H1 Q s r1 r2 q => .inr (.inl ⟨txt [c], n, rv_str (i := txt [c]) r1, rv_int r2, by rw [txt_len]; show 1 ≤ 4096; decide, h1, h2, by rw [mul_txt]; exact q _ fun G => .str _⟩)
end
/-! ### the drawn floors -/
abbrev BR := List Row
def wd (rows : BR) : Nat := (rows.headD ⟨[]⟩).bs.length
def turned (rows : BR) : BR := (rangeI 0 (wd rows)).map fun x => ⟨(rows.map fun r => (⟨[r.bs.getD x.toNat false]⟩ : Row)).map Row.bs |>.flatten⟩
abbrev okBR (rows : BR) : Prop := rows ≠ [] ∧ rows.length ≤ 50 ∧ wd rows ≤ 50 ∧ ∀ r ∈ rows, r.bs.length = wd rows
abbrev sp__law_turned_rows (K : PySem.W.Frag) : Sp := Pu (tabs K) (R1 turned okBR)
/-- rows that are drawn: so far, and the last stretch -/
structure Dr where
  rows : BR
  lo : Int
  hi : Int
def mx (i j : Int) : Int := if j > i then j else i
def mn (i j : Int) : Int := if j < i then j else i
def drSize (w more : Int) (even : Bool) (y : Int) : Int := if even then 2 * (1 + mixed more y % (w / 2)) else 1 + mixed more y % w
def drLeast (g : Dr) (sz : Int) : Int := mx 0 (g.lo - sz + 1)
def drBegin (w more : Int) (g : Dr) (sz y : Int) : Int := drLeast g sz + mixed more y / 30 % (mn (w - sz) g.hi - drLeast g sz + 1)
def stretch (w b sz : Int) : Row := ⟨List.replicate b.toNat false ++ List.replicate sz.toNat true ++ List.replicate (w - b - sz).toNat false⟩
def drStep (w more : Int) (even : Bool) (g : Dr) (y : Int) : Dr :=
  ⟨g.rows ++ [stretch w (drBegin w more g (drSize w more even y) y) (drSize w more even y)], drBegin w more g (drSize w more even y) y, drBegin w more g (drSize w more even y) y + drSize w more even y - 1⟩
def rowsBy (cell more : Int) (even : Bool) : BR := ((rangeI 0 (1 + cell / 5 % 6).toNat).foldl (drStep (2 + cell % 5) more even) ⟨[], 0, 2 + cell % 5 - 1⟩).rows
structure DrOk (w : Int) (g : Dr) : Prop where
  w2 : 2 ≤ w
  w6 : w ≤ 6
  l0 : 0 ≤ g.lo
  lh : g.lo ≤ g.hi
  hw : g.hi ≤ w - 1
theorem mixed_pos (n k : Int) : 0 ≤ mixed n k := Int.emod_nonneg _ (by decide)
theorem drSize_ok {w more : Int} {even : Bool} {y : Int} (h2 : 2 ≤ w) (h6 : w ≤ 6) : 1 ≤ drSize w more even y ∧ drSize w more even y ≤ w := by
  unfold drSize
  have a := Int.emod_nonneg (mixed more y) (show w ≠ 0 by omega)
  have b := Int.emod_lt_of_pos (mixed more y) (show 0 < w by omega)
  have c := Int.emod_nonneg (mixed more y) (show w / 2 ≠ 0 by omega)
  have e := Int.emod_lt_of_pos (mixed more y) (show 0 < w / 2 by omega)
  split <;> omega
theorem drMod_pos {w more : Int} {g : Dr} {sz : Int} (h : DrOk w g) (s1 : 1 ≤ sz) (s2 : sz ≤ w) : 0 < mn (w - sz) g.hi - drLeast g sz + 1 := by
  obtain ⟨a, b, c, d, e⟩ := h
  unfold drLeast mx mn
  split <;> split <;> omega
theorem drBegin_ok {w more : Int} {g : Dr} {sz y : Int} (h : DrOk w g) (s1 : 1 ≤ sz) (s2 : sz ≤ w) : 0 ≤ drBegin w more g sz y ∧ drBegin w more g sz y + sz ≤ w ∧ drBegin w more g sz y ≤ g.hi ∧ g.lo ≤ drBegin w more g sz y + sz - 1 := by
  have p := drMod_pos (more := more) h s1 s2
  have a := Int.emod_nonneg (mixed more y / 30) (show mn (w - sz) g.hi - drLeast g sz + 1 ≠ 0 by omega)
  have b := Int.emod_lt_of_pos (mixed more y / 30) p
  have c : mn (w - sz) g.hi ≤ w - sz ∧ mn (w - sz) g.hi ≤ g.hi := by
    unfold mn
    split <;> omega
  have e : 0 ≤ drLeast g sz ∧ g.lo - sz + 1 ≤ drLeast g sz := by
    unfold drLeast mx
    split <;> omega
  unfold drBegin
  omega
theorem drStep_ok {w more : Int} {even : Bool} {g : Dr} {y : Int} (h : DrOk w g) : DrOk w (drStep w more even g y) := by
  have s := drSize_ok (more := more) (even := even) (y := y) h.w2 h.w6
  have b := drBegin_ok (more := more) (y := y) h s.1 s.2
  refine ⟨h.w2, h.w6, b.1, ?_, ?_⟩
  · show drBegin w more g (drSize w more even y) y ≤ drBegin w more g (drSize w more even y) y + drSize w more even y - 1
    omega
  · show drBegin w more g (drSize w more even y) y + drSize w more even y - 1 ≤ w - 1
    omega
abbrev sp__law_rows_by (K : PySem.W.Frag) : Sp := Pu (tabs K) (R3 rowsBy fun _ _ _ => True)
end Tf

/-! The drawn floors, as rows of truths. -/
namespace Tf
open PySem PySem.Spec PyProof.Rows L2 Dt
def pr (s : String) : Row := ⟨s.toList.map (· == '#')⟩
def fixed4 : List BR := [[pr "#####", pr "....#", pr "###.#", pr "#...#", pr "#####"], [pr "######", pr "#.#.#.", pr "#.#.##"], [pr ".#.", pr "###", pr ".#."], [pr "##..##", pr "#....#", pr "######", pr "..##..", pr "..#..."]]
def anyRows (ns : List Int) : BR := if cellAt ns 0 % 9 = 7 then fixed4.getD (cellAt ns 0 / 9 % 4).toNat [] else if cellAt ns 0 / 270 % 2 = 1 then turned (rowsBy (cellAt ns 0 / 9) (cellAt ns 1) false) else rowsBy (cellAt ns 0 / 9) (cellAt ns 1) false
theorem stretch_len {w b z : Int} (h0 : 0 ≤ b) (h1 : 0 ≤ z) (h2 : b + z ≤ w) : (stretch w b z).bs.length = w.toNat := by
  unfold stretch
  simp only [List.length_append, List.length_replicate]
  omega
theorem fold_dr {w more : Int} {even : Bool} : ∀ (ys : List Int) (g : Dr), DrOk w g → (∀ r ∈ g.rows, r.bs.length = w.toNat) → DrOk w (ys.foldl (drStep w more even) g) ∧ (ys.foldl (drStep w more even) g).rows.length = g.rows.length + ys.length ∧ ∀ r ∈ (ys.foldl (drStep w more even) g).rows, r.bs.length = w.toNat
  | [], g, h, hr => ⟨h, rfl, hr⟩
  | y :: ys, g, h, hr => by
    have sz := drSize_ok (more := more) (even := even) (y := y) h.w2 h.w6
    have bg := drBegin_ok (more := more) (y := y) h sz.1 sz.2
    obtain ⟨a, b, c⟩ := fold_dr ys (drStep w more even g y) (drStep_ok h) fun r hr' => by
      rcases List.mem_append.mp hr' with z | z
      · exact hr r z
      · rw [List.mem_singleton.mp z]
        exact stretch_len bg.1 (by omega) bg.2.1
    refine ⟨a, ?_, c⟩
    rw [List.foldl_cons, b]
    show (g.rows ++ [_]).length + ys.length = _
    simp only [List.length_append, List.length_cons, List.length_nil]
    omega
theorem rowsBy_ok (cell more : Int) (even : Bool) : (rowsBy cell more even).length = (1 + cell / 5 % 6).toNat ∧ ∀ r ∈ rowsBy cell more even, r.bs.length = (2 + cell % 5).toNat := by
  have g0 : DrOk (2 + cell % 5) ⟨[], 0, 2 + cell % 5 - 1⟩ := ⟨by omega, by omega, by show (0 : Int) ≤ 0; omega, by show (0 : Int) ≤ 2 + cell % 5 - 1; omega, by show 2 + cell % 5 - 1 ≤ 2 + cell % 5 - 1; omega⟩
  obtain ⟨a, b, c⟩ := fold_dr (more := more) (even := even) (rangeI 0 (1 + cell / 5 % 6).toNat) _ g0 fun r hr => by cases hr
  refine ⟨?_, c⟩
  unfold rowsBy
  rw [b, rangeI_length]
  simp
theorem rowsBy_br (cell more : Int) (even : Bool) : okBR (rowsBy cell more even) ∧ (rowsBy cell more even).length ≤ 6 ∧ wd (rowsBy cell more even) ≤ 6 ∧ 2 ≤ wd (rowsBy cell more even) := by
  obtain ⟨a, b⟩ := rowsBy_ok cell more even
  have pos : 0 < (rowsBy cell more even).length := by rw [a]; omega
  have hw : wd (rowsBy cell more even) = (2 + cell % 5).toNat := by
    unfold wd
    cases h : rowsBy cell more even with
    | nil => rw [h] at pos; simp at pos
    | cons r l => exact b r (by rw [h]; exact List.mem_cons_self)
  refine ⟨⟨fun e => by rw [e] at pos; simp at pos, by rw [a]; omega, by rw [hw]; omega, fun r hr => by rw [b r hr, hw]⟩, by rw [a]; omega, by rw [hw]; omega, by rw [hw]; omega⟩
abbrev sp__law_any_rows (K : PySem.W.Frag) : Sp := PuC1 (tabs K) K anyRows
/-! ### the law's own cells -/
def rowAt (rows : BR) (y : Int) : Row := rows.getD y.toNat ⟨[]⟩
def bit (rows : BR) (p : Pt) : Bool := (rowAt rows p.2).bs.getD p.1.toNat false
def lawCells (rows : BR) : List Pt := (rangeI 0 rows.length).flatMap fun y => ((rangeI 0 (rowAt rows y).bs.length).filter fun x => bit rows (x, y)).map fun x => (x, y)
abbrev sp__law_cells (K : PySem.W.Frag) : Sp := Pu (tabs K) (R1 lawCells okBR)
section
variable {T : List (Addr × Str)} {σ : St} {F : Hp} {te ta tb : TE} {K : PySem.W.Frag}
theorem txt_ok (bs : List Bool) : PyData.strOk (txt bs) = true := by
  unfold PyData.strOk txt
  rw [← Array.all_toList, List.all_eq_true]
  intro c hc
  have hc' : c ∈ bs.map sg := hc
  obtain ⟨b, _, rfl⟩ := List.mem_map.mp hc'
  cases b <;> decide
theorem sg_inj {a b : Bool} (h : sg a = sg b) : a = b := by
  cases a <;> cases b <;> first | rfl | exact absurd h (by decide)
theorem txt_inj {a b : List Bool} (h : txt a = txt b) : a = b := by
  unfold txt at h
  have h1 : (a.map sg).toArray = (b.map sg).toArray := Str.mk.inj h
  have h2 : a.map sg = b.map sg := by simpa using h1
  clear h h1
  induction a generalizing b with
  | nil =>
    cases b with
    | nil => rfl
    | cons => simp at h2
  | cons x a ih =>
    cases b with
    | nil => simp at h2
    | cons y b =>
      simp only [List.map_cons, List.cons.injEq] at h2
      rw [sg_inj h2.1, ih h2.2]
theorem ev_isSign {b : Bool} (h : Ev T te σ F (⟨[b]⟩ : Row)) : Ev T (tOp (rEqD K) te (tC (.str "#"))) σ F b := by
  have z := ev_eqS (K := K) (x := txt [b]) (y := "#") h ev_str (txt_ok [b])
  have e : decide (txt [b] = ("#" : Str)) = b := by
    have e1 : ("#" : Str) = txt [true] := by decide +kernel
    rw [e1]
    cases b with
    | true => exact decide_eq_true rfl
    | false => exact decide_eq_false fun h => absurd (txt_inj h) (by decide)
  rw [e] at z
  exact z
end
theorem lawCells_part {rows : BR} {m n : Nat} (hr : ∀ r ∈ rows, r.bs.length ≤ m) : ∀ l : List Int, (l.flatMap fun y => ((rangeI 0 (rowAt rows y).bs.length).filter fun x => bit rows (x, y)).map fun x => ((x, y) : Pt)).length ≤ l.length * m
  | [] => by simp
  | y :: l => by
    have ih := lawCells_part (n := n) hr l
    have c := List.length_filter_le (fun x : Int => bit rows (x, y)) (rangeI 0 (rowAt rows y).bs.length)
    rw [rangeI_length] at c
    have b : (rowAt rows y).bs.length ≤ m := by
      unfold rowAt
      rw [List.getD_eq_getElem?_getD]
      cases h : rows[y.toNat]? with
      | none => show 0 ≤ m; omega
      | some r => exact hr r (List.mem_of_getElem? h)
    rw [List.flatMap_cons, List.length_append, List.length_map, List.length_cons, Nat.succ_mul]
    omega
/-! ### the law's own corners and the like -/
def addNew (a : List Pt) (c : Pt) : List Pt := if c ∈ a then a else a ++ [c]
def lawFound (cells : List Pt) : List Pt := cells.foldl (fun a x => (corners4 x).foldl addNew a) []
def lawCorners (cells : List Pt) : List Pt := inOrder (lawFound cells)
theorem addNew_len (a : List Pt) (c : Pt) : (addNew a c).length ≤ a.length + 1 := by
  unfold addNew
  split <;> simp
theorem addNew4_len : ∀ (l : List Pt) (a : List Pt), (l.foldl addNew a).length ≤ a.length + l.length
  | [], a => by simp
  | x :: l, a => by
    have h1 := addNew4_len l (addNew a x)
    have h2 := addNew_len a x
    rw [List.foldl_cons, List.length_cons]
    omega
theorem lawFound_len : ∀ (l : List Pt) (a : List Pt), (l.foldl (fun a x => (corners4 x).foldl addNew a) a).length ≤ a.length + l.length * 4
  | [], a => by simp
  | x :: l, a => by
    have h1 := lawFound_len l ((corners4 x).foldl addNew a)
    have h2 := addNew4_len (corners4 x) a
    have h3 : (corners4 x).length = 4 := rfl
    rw [List.foldl_cons, List.length_cons]
    omega
theorem keys_addNew : ∀ (l : List Pt) (D : Dc Bool), (l.foldl (fun a y => a.put y true) D).keys = l.foldl addNew D.keys
  | [], D => rfl
  | x :: l, D => by
    rw [List.foldl_cons, List.foldl_cons, keys_addNew l, Dc.put_keys]
    rfl
theorem cornersD_keys : ∀ (cells : List Pt) (D : Dc Bool), (cells.foldl (fun a x => (corners4 x).foldl (fun a y => a.put y true) a) D).keys = cells.foldl (fun a x => (corners4 x).foldl addNew a) D.keys
  | [], D => rfl
  | x :: l, D => by
    rw [List.foldl_cons, List.foldl_cons, cornersD_keys l, keys_addNew]
theorem cornersOf_law (f : Fl) : cornersOf f = lawCorners f.cells := by
  unfold cornersOf lawCorners lawFound
  exact congrArg inOrder (cornersD_keys f.cells ⟨[]⟩)
def inCell (cells : List Pt) (p : Pt) : Bool := decide (p ∈ cells)
def lawInnerB (cells : List Pt) (p : Pt) : Bool := inCell cells (p.1 - 1, p.2 - 1) && (inCell cells (p.1, p.2 - 1) && inCell cells (p.1 - 1, p.2))
def lawInner (cells : List Pt) : List Pt := cells.filter (lawInnerB cells)
def lawBeside (cells : List Pt) (p : Pt) : List Pt := (beside4 p).filter (inCell cells)
abbrev sp__law_corners (K : PySem.W.Frag) : Sp := Pu (tabs K) (R1 lawCorners fun c => c.length ≤ 2500)
abbrev sp__law_inner (K : PySem.W.Frag) : Sp := Pu (tabs K) (R1 lawInner fun c => c.length ≤ 2500)
abbrev sp__law_beside (K : PySem.W.Frag) : Sp := Pu (tabs K) (R2' lawBeside fun _ _ => True)
def sameL (a b : List Pt) : Bool := decide (a = b)
abbrev sp__law_whole_list (K : PySem.W.Frag) : Sp := Pu (tabs K) (R2' sameL fun a _ => a.length ≤ 100000)
end Tf

/-! A Floor that stands: what the law asks of it. -/
namespace Tf
open PySem PySem.Spec PyProof.Rows L2 Dt
def rtexts (rows : BR) : List Str := rows.map fun r => txt r.bs
theorem rtexts_d (rows : BR) : (d (rtexts rows) : PyData) = d rows := by
  show PyData.list (((rows.map fun r => txt r.bs)).map d) = PyData.list (rows.map d)
  rw [List.map_map]
  rfl
theorem rtexts_ok {rows : BR} : ∀ x ∈ rtexts rows, PyData.strOk x = true := fun x hx => by
  obtain ⟨r, _, rfl⟩ := List.mem_map.mp hx
  exact txt_ok _
/-- the floor f bears the rows and the cells -/
structure Good (K : PySem.W.Frag) (f : Fl) (rows : BR) (cells : List Pt) : Prop where
  fl : isFl K f
  rs : f.rows = rtexts rows
  cs : f.cells = cells
  kn : ∀ p, inK f p = inCell cells p
  inn : innerOf f = lawInner cells
  sm : cells.length ≤ 2500
  br : okBR rows
abbrev sp__law_stands (K : PySem.W.Frag) : Sp := Pu (tabs K) (R3 (fun _ _ _ => true) (Good K))
section
variable {α : Type} [Dt α] {σ : St} {F : Hp} {te ta tb : TE} {K : PySem.W.Frag} {CC : XK}
theorem ev_rtexts {rows : BR} (h : Ev (tabs K) te σ F rows) : Ev (tabs K) te σ F (rtexts rows) := fun H s t Q q => h H s t Q fun v F' H' st r => q v F' H' st (by rw [rtexts_d]; exact r)
theorem ev_beside {f : Fl} {p : Pt} {C : Addr} (h : Ev (tabs K) te σ F f) (h' : Ev (tabs K) ta σ F p) (hf : isFl K f) (hc : f.cls = C) (hp : inK f p = true) : EvN (tabs K) (tMeth C "beside" (sp_Floor_m_beside K) [] CC te (tCons ta tNil)) σ F (besideOf f p) := fun H s t Q q => h H s t _ fun v F1 H1 st r => by
  subst hc
  obtain ⟨o, dx, u1, u2, u3, rfl, a, r1, r2, r3⟩ := rv_fl r
  refine ⟨o, dx, _, rfl, (st.sub _ _ a).1, look_none (by decide), ea_cons (h'.mono st.ff) ea_nil H1 st.sub st.tab _ fun ws F2 H2 s2 rr => ?_⟩
  obtain ⟨w, rfl, rw_⟩ := rvl1 rr
  refine ⟨F2, f, d p, .ref o, w, rfl, s2.sub, s2.tab, r.mono s2.ff, rw_, hf, okThing_pt p, fun p' e hp' u F' H' s3 r3 n => ?_, fun hh => ?_⟩
  · have e' : p = p' := by
      have z : PyData.tuple [.int p.1, .int p.2] = .tuple [.int p'.1, .int p'.2] := e
      simp only [PyData.tuple.injEq, List.cons.injEq, PyData.int.injEq, and_true] at z
      exact Prod.ext z.1 z.2
    subst e'
    exact q u F' H' ((st.trans s2).trans s3) r3 fun x e => (st.trans s2).ext.live x (n x e)
  · unfold hasD at hh
    rw [place_of, ptD_of, hp] at hh
    cases hh
end
theorem beside_law {K : PySem.W.Frag} {f : Fl} {rows : BR} {cells : List Pt} (g : Good K f rows cells) (p : Pt) : besideOf f p = lawBeside cells p := by
  unfold besideOf lawBeside
  exact List.filter_congr fun q _ => g.kn q
end Tf

/-! Defs that get the handled exception itself: one pin. -/
namespace Tf
open PySem PySem.Spec PyProof.Rows L2 Dt L2H
/-- such a def's promise -/
structure FnP1 (P : Program) (w : World) (K : PySem.W.Frag) (mg : Str → Option Value) (base : Heap) (k : Nat) (f : Addr) (fd : FuncData) (ps : List Str) (pin : Addr × Obj) (sp : Sp) : Prop where
  num : ∀ {vs H Q E}, sp vs H Q E → vs.length = ps.length
  does : ∀ {A : Around} {outer : List Env} {s : Shared} {H : Hp} {args : Args} {us : List Value} {vs : List V} {Q : VK} {E : XK}, RoomH k A → Hot1 A pin → PinOk outer H s pin → Env0 P w K mg base A outer s H → BindsTo s fd args (ps.zip us) → Vals vs us → sp vs H Q E →
    codeAny (model P w) A (.call (.ref f) args) (CR CX0 outer P w H s Q E) s
theorem fnP1_of {P : Program} {w : World} {K : PySem.W.Frag} {mg : Str → Option Value} {base : Heap} {k : Nat} {f : Addr} {x qual : Str} {params : Arguments} {body : List Stmt} {scope : Scope} {fd : FuncData} {N ps : List Str} {pin : Addr × Obj} {sp : Sp}
    (F : FunD K x qual params body scope [] [] f fd) (S : FnScope N ps scope) (num : ∀ {vs H Q E}, sp vs H Q E → vs.length = ps.length)
    (main : ∀ (cd : Value) (A : Around) (outer : List Env) (s : Shared) (H : Hp) (vs : List V) (Q : VK) (E : XK), Hot1 A pin → RoomH k (A.deeper (envOfC qual scope s.heap.objs.size f cd)) → sp vs H Q E →
      ∃ t, PSs (cxH CX0 P w K mg base N qual scope f cd A outer s H E pin) body t ∧ t { nx := fun _ H' => Q .non H', rt := Q } (L2.start N vs) H) : FnP1 P w K mg base (k + 1) f fd ps pin sp := by
  obtain ⟨oc, od, dV, kV, doc, pm, an, cd, ct, osl, rfl, lk, hcd, _, _⟩ := F.ex
  refine ⟨num, fun {A outer s H args us vs Q E} room hot ok e0 bind rel q => ?_⟩
  have inK : K.In s.heap := e0.mod.kin.keeps fun b o z => (e0.bs b o z).1
  have nolim : s.heap.NoLimit := e0.mod.nolimit.keeps fun b o z => (e0.bs b o z).1
  refine codeAny_call_function room.depth (inK _ _ lk) rfl S.co S.gen rfl (PySem.W.codeRec_of inK hcd) (bind _ _ _ _ (wpAny_newFunctionEnv_cells S.kind (fun yv hy => ?_) fun env he s1 x1 => ?_))
  · obtain ⟨y, v⟩ := yv
    exact (S.par y (List.of_mem_zip hy).1).imp id fun z => ⟨z, PySem.W.cellsFrom_some _ _ _ (.inl z)⟩
  · subst he
    refine ⟨nolim.keeps x1.toInCall.keep, codeAny_func ?_⟩
    obtain ⟨t, ht, hq⟩ := main cd A outer s H vs Q E hot (room.deeper _) q
    refine wpAny_mono (ht.run [] s1 (L2.start N vs) H _ (inv_startH S ok e0 (num q) rel x1) hq) (fun flow s2 z => ?_) fun _ _ z => z
    cases flow with
    | ret u =>
      obtain ⟨v, σ', H', J, rv, q2⟩ := z
      exact ⟨v, H', J.os, J.bare, J.base, J.hok, rv, q2⟩
    | next =>
      obtain ⟨σ', H', J, q2⟩ := z
      exact ⟨V.non, H', J.os, J.bare, J.base, J.hok, rfl, q2⟩
    | brk =>
      obtain ⟨_, _, _, q2⟩ := z
      exact q2.elim
    | cont =>
      obtain ⟨_, _, _, q2⟩ := z
      exact q2.elim
/-- with its place and how it binds -/
structure Fd1 (P : Program) (w : World) (K : PySem.W.Frag) (mg : Str → Option Value) (base : Heap) (k : Nat) (x : Str) (f : Addr) (fd : FuncData) (ps : List Str) (pin : Addr × Obj) (sp : Sp) : Prop where
  ok : FnP1 P w K mg base k f fd ps pin sp
  at_ : mg x = some (.ref f)
  kp : PySem.W.keepIn K (.ref f) = true
  bi : Binds K fd ps []
theorem pe_fd1 {X : Cx} {k : Nat} {x : Str} {f : Addr} {fd : FuncData} {ps : List Str} {pin : Addr × Obj} {sp : Sp} {e : Expr} {es : List Expr} {t : TA} {q pos : Pos} (G : Fd1 X.prog X.w X.K X.mg X.base k x f fd ps pin sp) (room : RoomH k X.A) (hot : Hot1 X.A pin) (hp : pin ∈ X.pn) (ha : PA X (e :: es) t)
    (hg : Gl X x := by rfl) (hdb : (x == ("__debug__" : Str)) = false := by decide) (he : starEach (e :: es) X.env = (false, eval e X.env) :: starEach es X.env := by rfl) (hpl : (backTo pos (starEach es X.env)).any (·.1) = false := by rfl) :
    PE X (.Call (.Name x q) (e :: es) [] pos) (tCall sp [] E0 t) := by
  refine ⟨fun pins s σ H Q I h => wpAny_Call_Name_kw (ld_glob I hg G.at_ ?_ hdb)⟩
  refine PySem.W.callWith_K (h₀ := X.base) I.ok.mod.kin G.kp (thn (ha.run pos pins s σ H _ I h) fun us s1 z => ?_) he hpl
  obtain ⟨vs, H1, I1, r, q1⟩ := z
  refine ⟨I1.kIn, ?_⟩
  have q2 : sp vs H1 Q E0 := by
    have q3 : sp (vs ++ []) H1 Q E0 := q1
    rw [List.append_nil] at q3
    exact q3
  have hl : us.length = ps.length := by
    rw [← r.length]
    exact G.ok.num q2
  have b := G.bi s1 us I1.kIn (by rw [List.append_nil]; exact hl)
  rw [List.append_nil] at b
  have P1 := I1.pin pin (List.mem_append_left _ hp)
  have free : pin.1 ∉ frs X.stack := fun z => by
    rcases List.mem_cons.mp (I1.stkSub pin.1 z) with y | y
    · exact P1.2.2.1 y
    · exact P1.2.2.2.1 y
  refine wpAny_call (codeAny_mono (G.ok.does room hot ⟨P1.1, P1.2.1, free, P1.2.2.2.2⟩ I1.env0 b r q2) fun res s2 z => ?_)
  cases res with
  | error e => exact z.elim
  | ok fl =>
    cases fl with
    | ret u => exact I1.after z
    | next => exact z.elim
    | brk => exact z.elim
    | cont => exact z.elim
/-- which classes an error of the class c is of: the names, as the law asks them -/
def markNames : List Str := ["BadFloor", "Parted", "Holed", "NoCell", "BadLaying", "NoLaying", "NoHeights", "NoTurn", "BadText", "FloorError"]
def marks (c : Str) : List Bool := (markNames.map fun x => decide (x = c ∨ x = "FloorError")) ++ [true]
/-- what the head says of the classes -/
structure Kinds (K : PySem.W.Frag) : Prop where
  exc : ∀ c ∈ markNames, ExcC K (He.ga K c)
  kit : ∀ c ∈ markNames, ∀ x ∈ markNames, PySem.W.kitOne K (.ref (He.ga K c)) (.ref (He.ga K x)) = some (decide (x = c ∨ x = "FloorError"))
  val : ∀ c ∈ markNames, PySem.W.kitOne K (.ref (He.ga K c)) (.type "ValueError") = some true
  exm : ∀ c ∈ markNames, PySem.W.exmOne K (.ref (He.ga K c)) (.ref (He.ga K "FloorError")) = some true
def sp_marks (K : PySem.W.Frag) (pin : Addr × Obj) (c : Str) : Sp := fun vs H Q _ => ∃ F, vs = [.ref pin.1] ∧ Sub F H ∧ LamX.Tabs (tabs K) H ∧ ∀ v F' H', Step (tabs K) F F' H H' → Rv F' v (d (marks c)) → Q v H'
def sp_alone (K : PySem.W.Frag) (pin : Addr × Obj) (c : Str) : Sp := fun vs H Q _ => ∃ F k, vs = [.ref pin.1, .int k] ∧ 0 ≤ k ∧ k ≤ 8 ∧ Sub F H ∧ LamX.Tabs (tabs K) H ∧ ∀ v F' H', Step (tabs K) F F' H H' → Rv F' v (d (decide (markNames[k.toNat]? = some c))) → Q v H'
/-- isinstance of the pinned error -/
theorem ev_isE {K : PySem.W.Frag} {σ : St} {F : Hp} {pin : Addr × Obj} {D : Addr} {x : Str} {C : V} {cv : Value} {b : Bool} {i : Nat} {T : List (Addr × Str)} (hi : σ[i]? = some (some (.ref pin.1))) (hc : ∀ u, RelV C u → u = cv) (hk : PySem.W.kitOne K (.ref D) cv = some b) :
    Ev T (tCB (rIsE K D pin.1) (tCons (tVar i) (tCons (tC C) tNil))) σ F b := fun H s t Q q => ⟨_, hi, C, cv, b, rfl, hc, hk, q _ F H (.refl s t) (.bl _)⟩
theorem hu64_ofH {A : Around} {k : Nat} (hr : RoomH k A) : A.units + 64 < cLine := by
  have := hr.un
  omega
def asked (k : Int) : List Bool := (rangeI 0 11).map fun j => decide (j = k) || decide (8 < j)
theorem marks_all : ∀ c ∈ markNames, c ≠ "FloorError" → ∀ n ∈ List.range 9, decide (marks c = asked (n : Nat)) = decide (markNames[n]? = some c) := by decide +kernel
theorem marks_eq {c : Str} (hc : c ∈ markNames) (hc2 : c ≠ "FloorError") {k : Int} (k0 : 0 ≤ k) (k8 : k ≤ 8) : decide (marks c = asked k) = decide (markNames[k.toNat]? = some c) := by
  have h := marks_all c hc hc2 k.toNat (List.mem_range.mpr (by omega))
  rw [Int.toNat_of_nonneg k0] at h
  exact h
end Tf

/-! What is asked and may be refused. -/
namespace Tf
open PySem PySem.Spec PyProof.Rows L2 Dt
/-- what a call lets out is taken, whatever the slots hold -/
theorem passW {X : Cx} {W : WX} {n : Nat} (tk : L2N.Takes X W) (hn : X.N.length = n := by rfl) : Passes (L2N.CX X.prog X.w) X (fun cls dd H => ∀ σ : St, σ.length = n → W cls dd σ H) := fun pins σ H s e s' I c =>
  tk e s' (L2N.XE.of_call I (fun _ _ _ h => h σ (I.len.trans hn)) c)
theorem takes_never {X : Cx} : L2N.Takes X (fun _ _ _ _ => False) := fun u s' x => by
  obtain ⟨_, _, _, _, _, _, _, _, _, _, _, _, _, _, _, _, w⟩ := x
  exact w.elim
theorem pss_ex {X : Cx} {ι : Type} {P : ι → Prop} {st : List Stmt} {t : ι → TS} (h : ∀ c, P c → PSs X st (t c)) : PSs X st (fun D σ H => ∃ c, P c ∧ t c D σ H) := ⟨fun pins s σ H D I q => by
  obtain ⟨c, hc, q⟩ := q
  exact (h c hc).run pins s σ H D I q⟩
def sp_asked (K : PySem.W.Frag) : Sp := fun vs H Q _ => ∃ (F : Hp) (f : Fl) (x : PyData) (v w : V), vs = [v, w] ∧ Sub F H ∧ LamX.Tabs (tabs K) H ∧ Rv F v (d f) ∧ Rv F w x ∧ isFl K f ∧ okThing x ∧
  (∀ p : Pt, x = d p → inK f p = true → ∀ l b G H', Step (tabs K) F F H H' → H l = none → H b = none → l ≠ b → H' l = some (.lst [.ref b]) → Same F G → Sub G H' → G l = some (.lst [.ref b]) → Rv G (.ref b) (d (besideOf f p)) → Q (.ref l) H') ∧
  (hasD f x = false → ∀ v F' H', Step (tabs K) F F' H H' → Rv F' v (PyData.list [.none, .bool true]) → Q v H')
theorem len_asked {K : PySem.W.Frag} {vs : List V} {H : Hp} {Q : VK} {E : XK} (h : sp_asked K vs H Q E) : vs.length = 2 := by
  obtain ⟨F, f, x, v, w, rfl, _⟩ := h
  rfl
theorem roomH_mark {k j : Nat} {A : Around} {x : Option Value} (r : Room k A) (h : j ≤ k) : L2H.RoomH j (A.mark x) := by
  have r' := L2H.roomH_of (r.mono h)
  exact ⟨r'.dp, r'.un⟩
theorem Hot.of {A : Around} {a : Addr} {oe : Obj} {cls : Value} {dd : Option Addr} (z : L2N.Zn cls dd oe) (hf : ∃ vs, oe.data = .fields vs) : L2H.Hot1 (A.mark (some (.ref a))) (a, oe) := by
  obtain ⟨vs, e⟩ := hf
  exact ⟨rfl, vs, e, z.2.2 vs e⟩
end Tf

/-! A Floor that was made stands as the law asks. -/
namespace Tf
open PySem PySem.Spec PyProof.Rows L2 Dt
theorem ltYX_trans {a b c : Pt} (h : ltYX a b) (k : ltYX b c) : ltYX a c := by
  unfold ltYX at *
  omega
/-- strictly sorted lists with the same members are the same -/
theorem sorted_ext : ∀ {l m : List Pt}, l.Pairwise ltYX → m.Pairwise ltYX → (∀ p, p ∈ l ↔ p ∈ m) → l = m
  | [], [], _, _, _ => rfl
  | [], b :: m, _, _, h => by
    have := (h b).mpr List.mem_cons_self
    cases this
  | a :: l, [], _, _, h => by
    have := (h a).mp List.mem_cons_self
    cases this
  | a :: l, b :: m, hl, hm, h => by
    obtain ⟨a1, a2⟩ := List.pairwise_cons.mp hl
    obtain ⟨b1, b2⟩ := List.pairwise_cons.mp hm
    have e : a = b := by
      rcases List.mem_cons.mp ((h a).mp List.mem_cons_self) with z | z
      · exact z
      · rcases List.mem_cons.mp ((h b).mpr List.mem_cons_self) with y | y
        · exact y.symm
        · exact absurd (ltYX_trans (b1 a z) (a1 b y)) ltYX_irr
    subst e
    refine congrArg (a :: ·) (sorted_ext a2 b2 fun p => ⟨fun hp => ?_, fun hp => ?_⟩)
    · rcases List.mem_cons.mp ((h p).mp (List.mem_cons_of_mem _ hp)) with z | z
      · subst z
        exact absurd (a1 p hp) ltYX_irr
      · exact z
    · rcases List.mem_cons.mp ((h p).mpr (List.mem_cons_of_mem _ hp)) with z | z
      · subst z
        exact absurd (b1 p hp) ltYX_irr
      · exact z
theorem inOrder_sorted {l : List Pt} (h : l.Nodup) : (inOrder l).Pairwise ltYX := by
  have s : (inOrder l).Pairwise fun a b => yx a b = true := List.pairwise_mergeSort (fun a b c h k => by unfold yx at *; simp only [decide_eq_true_eq] at *; omega) (fun a b => by unfold yx; simp only [Bool.or_eq_true, decide_eq_true_eq]; omega) l
  have n : (inOrder l).Nodup := (List.mergeSort_perm l yx).nodup_iff.mpr h
  refine (s.and n).imp fun {a b} h => ?_
  obtain ⟨h1, h2⟩ := h
  unfold yx at h1
  simp only [decide_eq_true_eq] at h1
  unfold ltYX
  rcases h1 with z | z
  · exact .inl z
  · refine .inr ⟨z.1, ?_⟩
    have : a.1 ≠ b.1 := fun e => h2 (Prod.ext e z.1)
    omega
theorem lawCells_sorted (rows : BR) : (lawCells rows).Pairwise ltYX := by
  unfold lawCells
  rw [List.pairwise_flatMap]
  refine ⟨fun q _ => ?_, (rangeI_sorted _ _).imp fun {a b} h x hx y hy => ?_⟩
  · rw [List.pairwise_map]
    exact ((rangeI_sorted _ _).filter _).imp fun {a b} h => .inr ⟨rfl, h⟩
  · obtain ⟨u, _, rfl⟩ := List.mem_map.mp hx
    obtain ⟨w, _, rfl⟩ := List.mem_map.mp hy
    exact .inl h
theorem bit_len {rows : BR} {p : Pt} (h : bit rows p = true) : p.2.toNat < rows.length ∧ p.1.toNat < (rowAt rows p.2).bs.length := by
  unfold bit at h
  have h2 : p.1.toNat < (rowAt rows p.2).bs.length := by
    rw [List.getD_eq_getElem?_getD] at h
    cases e : (rowAt rows p.2).bs[p.1.toNat]? with
    | none => rw [e] at h; cases h
    | some b => exact (List.getElem?_eq_some_iff.mp e).1
  refine ⟨?_, h2⟩
  unfold rowAt at h2
  rw [List.getD_eq_getElem?_getD] at h2
  cases e : rows[p.2.toNat]? with
  | none => rw [e] at h2; simp at h2
  | some r => exact (List.getElem?_eq_some_iff.mp e).1
theorem mem_lawCells {rows : BR} {p : Pt} : p ∈ lawCells rows ↔ 0 ≤ p.1 ∧ 0 ≤ p.2 ∧ bit rows p = true := by
  obtain ⟨x, y⟩ := p
  unfold lawCells
  simp only [List.mem_flatMap, List.mem_map, List.mem_filter, mem_rangeI]
  constructor
  · rintro ⟨y', h1, x', ⟨h2, h3⟩, e⟩
    simp only [Prod.mk.injEq] at e
    obtain ⟨rfl, rfl⟩ := e
    exact ⟨h2.1, h1.1, h3⟩
  · rintro ⟨h1, h2, h3⟩
    obtain ⟨a, b⟩ := bit_len h3
    have a' : y.toNat < rows.length := a
    have b' : x.toNat < (rowAt rows y).bs.length := b
    exact ⟨y, by omega, x, ⟨by omega, h3⟩, rfl⟩
theorem signs_txt (bs : List Bool) : signs (txt bs) = bs.map fun b => txt [b] := by
  unfold signs txt
  rw [List.map_map]
  rfl
theorem cellSign_txt : cellSign = txt [true] := by decide +kernel
theorem signAt_bit {rows : BR} {p : Pt} : signAt (rtexts rows) p = some cellSign ↔ bit rows p = true := by
  unfold signAt bit rowAt rtexts
  rw [List.getElem?_map]
  simp only [List.getD_eq_getElem?_getD]
  cases e : rows[p.2.toNat]? with
  | none => simp
  | some r =>
    simp only [Option.map_some, Option.bind_some, Option.getD_some, signs_txt, List.getElem?_map, cellSign_txt]
    cases e2 : r.bs[p.1.toNat]? with
    | none => simp
    | some b =>
      simp only [Option.map_some, Option.getD_some, Option.some.injEq]
      constructor
      · intro h
        have := txt_inj h
        simpa using this
      · intro h
        rw [h]
theorem cells_law (rows : BR) : cellsIn (rtexts rows) = lawCells rows := by
  refine sorted_ext (cellsIn_sorted _) (lawCells_sorted _) fun p => ?_
  rw [mem_cellsIn, mem_lawCells, signAt_bit]
theorem mem_addNew {l : List Pt} : ∀ {a : List Pt} {p : Pt}, p ∈ l.foldl addNew a ↔ p ∈ a ∨ p ∈ l := by
  induction l with
  | nil => simp
  | cons x l ih =>
    intro a p
    rw [List.foldl_cons, ih]
    unfold addNew
    split
    · rename_i h
      constructor
      · rintro (z | z)
        · exact .inl z
        · exact .inr (List.mem_cons_of_mem _ z)
      · rintro (z | z)
        · exact .inl z
        · rcases List.mem_cons.mp z with y | y
          · exact .inl (y ▸ h)
          · exact .inr y
    · rw [List.mem_append, List.mem_singleton, List.mem_cons]
      constructor
      · rintro ((z | z) | z)
        · exact .inl z
        · exact .inr (.inl z)
        · exact .inr (.inr z)
      · rintro (z | z | z)
        · exact .inl (.inl z)
        · exact .inl (.inr z)
        · exact .inr z
theorem mem_lawFound : ∀ {cells a : List Pt} {p : Pt}, p ∈ cells.foldl (fun a x => (corners4 x).foldl addNew a) a ↔ p ∈ a ∨ ∃ c ∈ cells, p ∈ corners4 c := by
  intro cells
  induction cells with
  | nil => simp
  | cons x l ih =>
    intro a p
    rw [List.foldl_cons, ih, mem_addNew]
    constructor
    · rintro ((z | z) | ⟨c, hc, z⟩)
      · exact .inl z
      · exact .inr ⟨x, List.mem_cons_self, z⟩
      · exact .inr ⟨c, List.mem_cons_of_mem _ hc, z⟩
    · rintro (z | ⟨c, hc, z⟩)
      · exact .inl (.inl z)
      · rcases List.mem_cons.mp hc with y | y
        · exact .inl (.inr (y ▸ z))
        · exact .inr ⟨c, y, z⟩
theorem nodup_addNew {l : List Pt} : ∀ {a : List Pt}, a.Nodup → (l.foldl addNew a).Nodup := by
  induction l with
  | nil => exact id
  | cons x l ih =>
    intro a h
    rw [List.foldl_cons]
    refine ih ?_
    unfold addNew
    split
    · exact h
    · rename_i n
      refine List.nodup_append.mpr ⟨h, by simp, fun u hu v hv e => n ?_⟩
      rw [← List.mem_singleton.mp hv, ← e]
      exact hu
theorem nodup_lawFound : ∀ {cells a : List Pt}, a.Nodup → (cells.foldl (fun a x => (corners4 x).foldl addNew a) a).Nodup := by
  intro cells
  induction cells with
  | nil => exact id
  | cons x l ih =>
    intro a h
    rw [List.foldl_cons]
    exact ih (nodup_addNew h)
theorem inner_law {f : Fl} {cells : List Pt} (hc : f.cells = cells) (hk : ∀ p, inK f p = inCell cells p) (hs : cells.Pairwise ltYX) : innerOf f = lawInner cells := by
  refine sorted_ext ?_ (hs.filter _) fun p => ?_
  · unfold innerOf
    rw [cornersOf_law, hc]
    exact (inOrder_sorted (nodup_lawFound (by simp))).filter _
  · unfold innerOf lawInner
    rw [List.mem_filter, List.mem_filter, cornersOf_law, hc]
    unfold lawCorners inOrder lawFound
    rw [List.mem_mergeSort, mem_lawFound]
    have e : isInner f p = (inCell cells (p.1 - 1, p.2 - 1) && (inCell cells (p.1, p.2 - 1) && (inCell cells (p.1 - 1, p.2) && inCell cells p))) := by
      unfold isInner round4
      simp only [List.map_cons, List.map_nil, List.all_cons, List.all_nil, hk, id, Bool.and_true]
    rw [e]
    unfold lawInnerB
    simp only [Bool.and_eq_true]
    constructor
    · rintro ⟨_, h1, h2, h3, h4⟩
      exact ⟨by simpa [inCell] using h4, h1, h2, h3⟩
    · rintro ⟨h4, h1, h2, h3⟩
      exact ⟨.inr ⟨p, h4, by simp [corners4]⟩, h1, h2, h3, by simpa [inCell] using h4⟩
theorem inK_of (C : Addr) (rows : List Str) (p : Pt) : inK (flOf C rows) p = inCell (cellsIn rows) p := by
  unfold inK inCell flOf
  rw [Dc.get_some]
  exact decide_eq_decide.mpr dictOf_mem
theorem good_of {K : PySem.W.Frag} {rows : BR} (br : okBR rows) (R : Rows (rtexts rows)) : Good K (flOf (He.ga K "Floor") (rtexts rows)) rows (lawCells rows) := by
  have kn : ∀ p, inK (flOf (He.ga K "Floor") (rtexts rows)) p = inCell (lawCells rows) p := fun p => by rw [inK_of, cells_law]
  have cs : (flOf (He.ga K "Floor") (rtexts rows)).cells = lawCells rows := cells_law rows
  refine ⟨rfl, rfl, cs, kn, inner_law cs kn (lawCells_sorted rows), ?_, br⟩
  have := cells36 R
  rw [cells_law] at this
  omega
end Tf

/-! Drawn floors hang together and have no holes. -/
namespace Tf
open PySem PySem.Spec PyProof.Rows L2 Dt
/-! ### from place to place, in a set -/
inductive Rch (S : Pt → Prop) (a : Pt) : Pt → Prop
  | refl : Rch S a a
  | step {b c : Pt} (h : Rch S a b) (n : c ∈ beside4 b) (m : S c) : Rch S a c
variable {S : Pt → Prop}
theorem beside_sym {a b : Pt} (h : b ∈ beside4 a) : a ∈ beside4 b := by
  obtain ⟨x, y⟩ := a
  obtain ⟨u, v⟩ := b
  unfold beside4 at *
  simp only [List.mem_cons, Prod.mk.injEq, List.not_mem_nil, or_false] at *
  omega
theorem Rch.trans {a b c : Pt} (h : Rch S a b) (k : Rch S b c) : Rch S a c := by
  induction k with
  | refl => exact h
  | step _ n m ih => exact .step ih n m
theorem Rch.sym {a b : Pt} (ha : S a) (h : Rch S a b) : Rch S b a := by
  induction h with
  | refl => exact .refl
  | @step b c h n m ih =>
    have hb : S b := by
      cases h with
      | refl => exact ha
      | step _ _ m => exact m
    exact (Rch.step .refl (beside_sym n) hb).trans ih
/-- all are reached from all -/
def ConnS (S : Pt → Prop) : Prop := ∀ a b, S a → S b → Rch S a b
theorem conn_hub {h : Pt} (hh : ∀ a, S a → Rch S a h) : ConnS S := fun a b ha hb => (hh a ha).trans ((hh b hb).sym hb)
theorem conn_of {ps : List Pt} (h : ConnS fun p => p ∈ ps) : Conn ps := fun p hp => by
  have hd : ps.headD (0, 0) ∈ ps := by
    cases ps with
    | nil => cases hp
    | cons a l => exact List.mem_cons_self
  have r := h _ p hd hp
  clear hp
  induction r with
  | refl => exact .refl
  | step _ n m ih => exact .step ih n m
theorem conn_iff {S' : Pt → Prop} (e : ∀ p, S p ↔ S' p) (h : ConnS S) : ConnS S' := fun a b ha hb => by
  have r := h a b ((e a).mpr ha) ((e b).mpr hb)
  clear hb
  induction r with
  | refl => exact .refl
  | step _ n m ih => exact .step ih n ((e _).mp m)
def flip (p : Pt) : Pt := (p.2, p.1)
theorem flip_beside {a b : Pt} (h : b ∈ beside4 a) : flip b ∈ beside4 (flip a) := by
  obtain ⟨x, y⟩ := a
  obtain ⟨u, v⟩ := b
  unfold beside4 flip at *
  simp only [List.mem_cons, Prod.mk.injEq, List.not_mem_nil, or_false] at *
  omega
theorem conn_flip (h : ConnS S) : ConnS fun p => S (flip p) := fun a b ha hb => by
  have r := h _ _ ha hb
  have key : ∀ {u v : Pt}, Rch S u v → Rch (fun p => S (flip p)) (flip u) (flip v) := fun {u v} r => by
    induction r with
    | refl => exact .refl
    | step _ n m ih => exact .step ih (flip_beside n) m
  exact key r
/-- along a row, to the right -/
theorem run_x {y l : Int} : ∀ (n : Nat), (∀ x, l ≤ x → x ≤ l + n → S (x, y)) → Rch S (l, y) (l + n, y)
  | 0, _ => by
    have e : l + ((0 : Nat) : Int) = l := by omega
    rw [e]
    exact .refl
  | n + 1, h => by
    have a := run_x n fun x h1 h2 => h x h1 (by omega)
    refine .step a ?_ (h _ (by omega) (by omega))
    have e : l + ((n + 1 : Nat) : Int) = (l + (n : Int)) + 1 := by omega
    rw [e]
    simp [beside4]
theorem run_y {x l : Int} : ∀ (n : Nat), (∀ y, l ≤ y → y ≤ l + n → S (x, y)) → Rch S (x, l) (x, l + n)
  | 0, _ => by
    have e : l + ((0 : Nat) : Int) = l := by omega
    rw [e]
    exact .refl
  | n + 1, h => by
    have a := run_y n fun y h1 h2 => h y h1 (by omega)
    refine .step a ?_ (h _ (by omega) (by omega))
    have e : l + ((n + 1 : Nat) : Int) = (l + (n : Int)) + 1 := by omega
    rw [e]
    simp [beside4]
theorem row_x {y a b : Int} (h : ∀ x, a ≤ x → x ≤ b → S (x, y)) {u v : Int} (u1 : a ≤ u) (u2 : u ≤ b) (v1 : a ≤ v) (v2 : v ≤ b) : Rch S (u, y) (v, y) := by
  by_cases c : u ≤ v
  · have := run_x (S := S) (y := y) (l := u) (v - u).toNat fun x h1 h2 => h x (by omega) (by omega)
    have e : u + ((v - u).toNat : Int) = v := by omega
    rw [e] at this
    exact this
  · have := run_x (S := S) (y := y) (l := v) (u - v).toNat fun x h1 h2 => h x (by omega) (by omega)
    have e : v + ((u - v).toNat : Int) = u := by omega
    rw [e] at this
    exact this.sym (h v v1 v2)
theorem col_y {x a b : Int} (h : ∀ y, a ≤ y → y ≤ b → S (x, y)) {u v : Int} (u1 : a ≤ u) (u2 : u ≤ b) (v1 : a ≤ v) (v2 : v ≤ b) : Rch S (x, u) (x, v) := by
  by_cases c : u ≤ v
  · have := run_y (S := S) (x := x) (l := u) (v - u).toNat fun y h1 h2 => h y (by omega) (by omega)
    have e : u + ((v - u).toNat : Int) = v := by omega
    rw [e] at this
    exact this
  · have := run_y (S := S) (x := x) (l := v) (u - v).toNat fun y h1 h2 => h y (by omega) (by omega)
    have e : v + ((u - v).toNat : Int) = u := by omega
    rw [e] at this
    exact this.sym (h v v1 v2)
/-! ### rows that are stretches -/
/-- n rows, in each the cells from lo to hi; neighbours overlap -/
structure Bands (n w : Int) (lo hi : Int → Int) : Prop where
  n1 : 1 ≤ n
  l0 : ∀ y, 0 ≤ y → y < n → 0 ≤ lo y ∧ lo y ≤ hi y ∧ hi y < w
  ov : ∀ y, 0 ≤ y → y + 1 < n → lo (y + 1) ≤ hi y ∧ lo y ≤ hi (y + 1)
def inBand (n : Int) (lo hi : Int → Int) (p : Pt) : Prop := 0 ≤ p.2 ∧ p.2 < n ∧ lo p.2 ≤ p.1 ∧ p.1 ≤ hi p.2
theorem bands_conn {n w : Int} {lo hi : Int → Int} (B : Bands n w lo hi) : ConnS (inBand n lo hi) := by
  have up : ∀ k : Nat, (k : Int) < n → ∀ x, inBand n lo hi (x, k) → Rch (inBand n lo hi) (x, k) (lo 0, 0) := by
    intro k
    induction k with
    | zero =>
      intro hk x hx
      have z := B.l0 0 (by omega) (by omega)
      obtain ⟨_, _, h3, h4⟩ := hx
      exact row_x (a := lo 0) (b := hi 0) (fun u h1 h2 => ⟨by show (0 : Int) ≤ 0; omega, by show (0 : Int) < n; omega, h1, h2⟩) h3 h4 (by omega) (by omega)
    | succ k ih =>
      intro hk x hx
      obtain ⟨h1, h2, h3, h4⟩ := hx
      have e : ((k + 1 : Nat) : Int) = (k : Int) + 1 := by omega
      have o := B.ov k (by omega) (by omega)
      have z0 := B.l0 k (by omega) (by omega)
      have z1 := B.l0 ((k : Int) + 1) (by omega) (by omega)
      rw [e] at h3 h4 ⊢
      have h3' : lo ((k : Int) + 1) ≤ x := h3
      have h4' : x ≤ hi ((k : Int) + 1) := h4
      -- a column that both have
      have hc : ∃ c, lo k ≤ c ∧ c ≤ hi k ∧ lo ((k : Int) + 1) ≤ c ∧ c ≤ hi ((k : Int) + 1) := by
        by_cases q : lo k ≤ lo ((k : Int) + 1)
        · exact ⟨lo ((k : Int) + 1), q, o.1, by omega, z1.2.1⟩
        · exact ⟨lo k, by omega, z0.2.1, by omega, o.2⟩
      obtain ⟨c, c1, c2, c3, c4⟩ := hc
      have r1 : Rch (inBand n lo hi) (x, (k : Int) + 1) (c, (k : Int) + 1) := row_x (a := lo ((k : Int) + 1)) (b := hi ((k : Int) + 1)) (fun u a b => ⟨by show (0 : Int) ≤ (k : Int) + 1; omega, by show (k : Int) + 1 < n; omega, a, b⟩) h3' h4' c3 c4
      have m : inBand n lo hi (c, (k : Int)) := ⟨by show (0 : Int) ≤ (k : Int); omega, by show (k : Int) < n; omega, c1, c2⟩
      have r2 : Rch (inBand n lo hi) (x, (k : Int) + 1) (c, (k : Int)) := .step r1 (by
        have e2 : ((c, (k : Int)) : Pt) = (c, (k : Int) + 1 - 1) := by
          congr 1
          omega
        rw [e2]
        simp [beside4]) m
      exact r2.trans (ih (by omega) c m)
  refine conn_hub (h := (lo 0, 0)) fun a ha => ?_
  obtain ⟨x, y⟩ := a
  have hy : 0 ≤ y := ha.1
  have hn : y < n := ha.2.1
  have e : y = ((y.toNat : Nat) : Int) := by omega
  rw [e] at ha ⊢
  exact up y.toNat (by omega) x ha
/-- the places in and about the box that are in no band -/
def outBand (n w : Int) (lo hi : Int → Int) (p : Pt) : Prop := -1 ≤ p.1 ∧ p.1 ≤ w ∧ -1 ≤ p.2 ∧ p.2 ≤ n ∧ ¬ inBand n lo hi p
theorem bands_out {n w : Int} {lo hi : Int → Int} (B : Bands n w lo hi) : ConnS (outBand n w lo hi) := by
  have w0 : 0 < w := by
    have := B.l0 0 (by omega) (by have := B.n1; omega)
    omega
  have n1 := B.n1
  have left : ∀ y, -1 ≤ y → y ≤ n → outBand n w lo hi (-1, y) := fun y h1 h2 => by
    refine ⟨by show (-1 : Int) ≤ -1; omega, by show (-1 : Int) ≤ w; omega, h1, h2, fun h => ?_⟩
    have := B.l0 y h.1 h.2.1
    have h3 : lo y ≤ -1 := h.2.2.1
    omega
  have right : ∀ y, -1 ≤ y → y ≤ n → outBand n w lo hi (w, y) := fun y h1 h2 => by
    refine ⟨by show (-1 : Int) ≤ w; omega, by show w ≤ w; omega, h1, h2, fun h => ?_⟩
    have := B.l0 y h.1 h.2.1
    have h3 : w ≤ hi y := h.2.2.2
    omega
  have top : ∀ x, -1 ≤ x → x ≤ w → outBand n w lo hi (x, -1) := fun x h1 h2 => by
    refine ⟨h1, h2, by show (-1 : Int) ≤ -1; omega, by show (-1 : Int) ≤ n; omega, fun h => ?_⟩
    have h3 : (0 : Int) ≤ -1 := h.1
    omega
  have toL : ∀ y, -1 ≤ y → y ≤ n → Rch (outBand n w lo hi) (-1, y) (-1, -1) := fun y h1 h2 => col_y (a := -1) (b := n) left h1 h2 (by omega) (by omega)
  have toR : ∀ y, -1 ≤ y → y ≤ n → Rch (outBand n w lo hi) (w, y) (-1, -1) := fun y h1 h2 => (col_y (a := -1) (b := n) right h1 h2 (v := -1) (by omega) (by omega)).trans (row_x (a := -1) (b := w) top (by omega) (by omega) (by omega) (by omega))
  refine conn_hub (h := (-1, -1)) fun a ha => ?_
  obtain ⟨x, y⟩ := a
  obtain ⟨h1, h2, h3, h4, h5⟩ := ha
  have h1 : -1 ≤ x := h1
  have h2 : x ≤ w := h2
  have h3 : -1 ≤ y := h3
  have h4 : y ≤ n := h4
  by_cases hb : 0 ≤ y ∧ y < n
  · have z := B.l0 y hb.1 hb.2
    by_cases hl : x < lo y
    · refine (row_x (S := outBand n w lo hi) (a := -1) (b := lo y - 1) (fun u a b => ⟨a, by show u ≤ w; omega, h3, h4, fun h => ?_⟩) h1 (by omega) (by omega) (by omega)).trans (toL y h3 h4)
      have : lo y ≤ u := h.2.2.1
      omega
    · have hr : hi y < x := by
        refine Classical.byContradiction fun n2 => h5 ⟨hb.1, hb.2, ?_, ?_⟩
        · show lo y ≤ x
          omega
        · show x ≤ hi y
          omega
      refine (row_x (S := outBand n w lo hi) (a := hi y + 1) (b := w) (fun u a b => ⟨by show -1 ≤ u; omega, b, h3, h4, fun h => ?_⟩) (by omega) h2 (v := w) (by omega) (by omega)).trans (toR y h3 h4)
      have : u ≤ hi y := h.2.2.2
      omega
  · refine (row_x (S := outBand n w lo hi) (a := -1) (b := w) (fun u a b => ⟨a, b, h3, h4, fun h => hb ⟨h.1, h.2.1⟩⟩) h1 h2 (by omega) (by omega)).trans (toL y h3 h4)
end Tf

/-! Every drawn floor is one. -/
namespace Tf
open PySem PySem.Spec PyProof.Rows L2 Dt
theorem hang_true {ps : List Pt} (h : Conn ps) : hang ps = true := @decide_eq_true _ (Classical.propDecidable _) h
theorem wid_rt {rows : BR} : widthOf (rtexts rows) = wd rows := by
  unfold widthOf wd rtexts
  cases rows with
  | nil => rfl
  | cons r l => exact congrArg Int.ofNat (txt_len r.bs)
theorem rows_rt {rows : BR} (br : okBR rows) (l : rows.length ≤ 6) (w1 : 1 ≤ wd rows) (w6 : wd rows ≤ 6) : Rows (rtexts rows) := by
  obtain ⟨ne, _, _, same⟩ := br
  refine ⟨fun e => ne (List.map_eq_nil_iff.mp e), by unfold rtexts; rw [List.length_map]; exact l, fun r hr => ?_, fun r hr => ?_⟩
  · obtain ⟨q, hq, rfl⟩ := List.mem_map.mp hr
    have := same q hq
    unfold isRow
    rw [txt_len, this]
    simp only [Bool.and_eq_true, decide_eq_true_eq]
    refine ⟨⟨by omega, by omega⟩, List.all_eq_true.mpr fun b hb => ?_⟩
    obtain ⟨c, hc, rfl⟩ := List.mem_map.mp hb
    have hc' : c ∈ q.bs.map sg := by simpa [txt] using hc
    obtain ⟨b, _, rfl⟩ := List.mem_map.mp hc'
    have e3 : sgs.cps.toList = [35, 46] := by decide +kernel
    rw [e3]
    cases b <;> rfl
  · obtain ⟨q, hq, rfl⟩ := List.mem_map.mp hr
    rw [wid_rt, txt_len, same q hq]
theorem judge_none {rows : BR} (ne : lawCells rows ≠ []) (c : ConnS fun p => p ∈ lawCells rows) (o : ConnS fun p => p ∈ without (rtexts rows) (lawCells rows)) : judge (rtexts rows) = none := by
  unfold judge
  rw [cells_law, if_neg ne, hang_true (conn_of c), if_neg (by decide), hang_true (conn_of o), if_neg (by decide)]
/-! ### stretches -/
theorem stretch_bit {w b z x : Int} (hx : 0 ≤ x) (hb : 0 ≤ b) (hz : 0 ≤ z) : (stretch w b z).bs.getD x.toNat false = decide (b ≤ x ∧ x < b + z) := by
  unfold stretch
  rw [List.getD_eq_getElem?_getD]
  by_cases h1 : x < b
  · rw [List.append_assoc, List.getElem?_append_left (by rw [List.length_replicate]; omega), List.getElem?_replicate, if_pos (by omega), decide_eq_false (by omega)]
    rfl
  · by_cases h2 : x < b + z
    · rw [List.append_assoc, List.getElem?_append_right (by rw [List.length_replicate]; omega), List.getElem?_append_left (by rw [List.length_replicate, List.length_replicate]; omega), List.getElem?_replicate, if_pos (by rw [List.length_replicate]; omega), decide_eq_true (by omega)]
      rfl
    · rw [List.getElem?_append_right (by rw [List.length_append, List.length_replicate, List.length_replicate]; omega), List.getElem?_replicate, decide_eq_false (by omega)]
      split <;> rfl
/-- the stretches of rows: where each begins, how long it is -/
structure Strs (w : Int) (qs : List (Int × Int)) : Prop where
  each : ∀ q ∈ qs, 0 ≤ q.1 ∧ 1 ≤ q.2 ∧ q.1 + q.2 ≤ w
  next : ∀ (i : Nat) (q r : Int × Int), qs[i]? = some q → qs[i + 1]? = some r → r.1 ≤ q.1 + q.2 - 1 ∧ q.1 ≤ r.1 + r.2 - 1
theorem fold_strs {w more : Int} {even : Bool} : ∀ (ys : List Int) (g : Dr), DrOk w g → ∃ qs : List (Int × Int), (ys.foldl (drStep w more even) g).rows = g.rows ++ qs.map (fun q => stretch w q.1 q.2) ∧ qs.length = ys.length ∧ Strs w qs ∧ ∀ q, qs[0]? = some q → q.1 ≤ g.hi ∧ g.lo ≤ q.1 + q.2 - 1
  | [], g, h => ⟨[], by simp, rfl, ⟨fun q hq => (by cases hq), fun i q r h1 h2 => (by simp at h1)⟩, fun q h => (by simp at h)⟩
  | y :: ys, g, h => by
    have sz := drSize_ok (more := more) (even := even) (y := y) h.w2 h.w6
    have bg := drBegin_ok (more := more) (y := y) h sz.1 sz.2
    obtain ⟨qs, e1, e2, e3, e4⟩ := fold_strs ys (drStep w more even g y) (drStep_ok h)
    refine ⟨(drBegin w more g (drSize w more even y) y, drSize w more even y) :: qs, ?_, by simp [e2], ⟨fun q hq => ?_, fun i q r h1 h2 => ?_⟩, fun q hq => ?_⟩
    · rw [List.foldl_cons, e1]
      show (g.rows ++ [_]) ++ _ = _
      simp
    · rcases List.mem_cons.mp hq with z | z
      · rw [z]
        exact ⟨bg.1, sz.1, bg.2.1⟩
      · exact e3.each q z
    · cases i with
      | zero =>
        simp only [List.getElem?_cons_zero, Option.some.injEq] at h1
        subst h1
        exact e4 r (by simpa using h2)
      | succ i => exact e3.next i q r (by simpa using h1) (by simpa using h2)
    · simp only [List.getElem?_cons_zero, Option.some.injEq] at hq
      subst hq
      exact ⟨bg.2.2.1, bg.2.2.2⟩
def loOf (qs : List (Int × Int)) (y : Int) : Int := (qs.getD y.toNat (0, 1)).1
def hiOf (qs : List (Int × Int)) (y : Int) : Int := (qs.getD y.toNat (0, 1)).1 + (qs.getD y.toNat (0, 1)).2 - 1
theorem getD_some {α : Type} {l : List α} {i : Nat} {x : α} (h : i < l.length) : ∃ q, l[i]? = some q ∧ l.getD i x = q := by
  refine ⟨l[i], List.getElem?_eq_getElem h, ?_⟩
  rw [List.getD_eq_getElem?_getD, List.getElem?_eq_getElem h]
  rfl
theorem bands_of {w : Int} {qs : List (Int × Int)} (h : Strs w qs) (ne : 1 ≤ qs.length) : Bands qs.length w (loOf qs) (hiOf qs) := by
  refine ⟨by omega, fun y h1 h2 => ?_, fun y h1 h2 => ?_⟩
  · obtain ⟨q, e1, e2⟩ := getD_some (l := qs) (i := y.toNat) (x := (0, 1)) (by omega)
    unfold loOf hiOf
    rw [e2]
    have := h.each q (List.mem_of_getElem? e1)
    omega
  · obtain ⟨q, e1, e2⟩ := getD_some (l := qs) (i := y.toNat) (x := (0, 1)) (by omega)
    obtain ⟨r, e3, e4⟩ := getD_some (l := qs) (i := (y + 1).toNat) (x := (0, 1)) (by omega)
    unfold loOf hiOf
    rw [e2, e4]
    have e5 : (y + 1).toNat = y.toNat + 1 := by omega
    rw [e5] at e3
    have := h.next _ q r e1 e3
    omega
theorem rowAt_map {w : Int} {qs : List (Int × Int)} {y : Int} {q : Int × Int} (h : qs[y.toNat]? = some q) : rowAt (qs.map fun q => stretch w q.1 q.2) y = stretch w q.1 q.2 := by
  unfold rowAt
  rw [List.getD_eq_getElem?_getD, List.getElem?_map, h]
  rfl
theorem strs_bit {w : Int} {qs : List (Int × Int)} (h : Strs w qs) {p : Pt} : p ∈ lawCells (qs.map fun q => stretch w q.1 q.2) ↔ inBand qs.length (loOf qs) (hiOf qs) p := by
  obtain ⟨x, y⟩ := p
  rw [mem_lawCells]
  unfold inBand
  constructor
  · rintro ⟨h1, h2, h3⟩
    have h1 : 0 ≤ x := h1
    have h2 : 0 ≤ y := h2
    obtain ⟨a, _⟩ := bit_len h3
    rw [List.length_map] at a
    have a : y.toNat < qs.length := a
    obtain ⟨q, e1, e2⟩ := getD_some (l := qs) (i := y.toNat) (x := (0, 1)) a
    have ez := h.each q (List.mem_of_getElem? e1)
    unfold bit at h3
    rw [show rowAt (qs.map fun q => stretch w q.1 q.2) (x, y).2 = stretch w q.1 q.2 from rowAt_map e1] at h3
    have h3 : (stretch w q.1 q.2).bs.getD x.toNat false = true := h3
    rw [stretch_bit h1 ez.1 (by omega), decide_eq_true_eq] at h3
    refine ⟨h2, by show y < (qs.length : Int); omega, ?_, ?_⟩
    · show loOf qs y ≤ x
      unfold loOf
      rw [e2]
      omega
    · show x ≤ hiOf qs y
      unfold hiOf
      rw [e2]
      omega
  · rintro ⟨h1, h2, h3, h4⟩
    have h1 : 0 ≤ y := h1
    have h2 : y < (qs.length : Int) := h2
    have h3 : loOf qs y ≤ x := h3
    have h4 : x ≤ hiOf qs y := h4
    obtain ⟨q, e1, e2⟩ := getD_some (l := qs) (i := y.toNat) (x := (0, 1)) (by omega)
    have ez := h.each q (List.mem_of_getElem? e1)
    unfold loOf at h3
    unfold hiOf at h4
    rw [e2] at h3 h4
    refine ⟨by show 0 ≤ x; omega, h1, ?_⟩
    unfold bit
    rw [show rowAt (qs.map fun q => stretch w q.1 q.2) (x, y).2 = stretch w q.1 q.2 from rowAt_map e1]
    show (stretch w q.1 q.2).bs.getD x.toNat false = true
    rw [stretch_bit (by omega) ez.1 (by omega), decide_eq_true_eq]
    omega
/-! ### in general: what must be known of rows -/
/-- rows that are a floor, as the law draws them -/
structure Fine (rows : BR) : Prop where
  br : okBR rows
  len : rows.length ≤ 6
  w1 : 1 ≤ wd rows
  w6 : wd rows ≤ 6
  ne : lawCells rows ≠ []
  conn : ConnS fun p => p ∈ lawCells rows
  out : ConnS fun p => p ∈ without (rtexts rows) (lawCells rows)
theorem Fine.rows {rows : BR} (f : Fine rows) : Rows (rtexts rows) := rows_rt f.br f.len f.w1 f.w6
theorem Fine.judge {rows : BR} (f : Fine rows) : judge (rtexts rows) = none := judge_none f.ne f.conn f.out
theorem mem_out {rows : BR} {cells : List Pt} {p : Pt} : p ∈ without (rtexts rows) cells ↔ (-1 ≤ p.1 ∧ p.1 ≤ wd rows) ∧ (-1 ≤ p.2 ∧ p.2 ≤ rows.length) ∧ p ∉ cells := by
  rw [mem_without, wid_rt]
  unfold rtexts
  rw [List.length_map]
theorem fine_strs {w : Int} {qs : List (Int × Int)} (h : Strs w qs) (ne : 1 ≤ qs.length) (l6 : qs.length ≤ 6) (w6 : w ≤ 6) : Fine (qs.map fun q => stretch w q.1 q.2) := by
  have B := bands_of h ne
  have w0 : 1 ≤ w := by
    have := B.l0 0 (by omega) (by omega)
    omega
  have hw : wd (qs.map fun q => stretch w q.1 q.2) = w.toNat := by
    cases qs with
    | nil => simp at ne
    | cons q l =>
      have := h.each q List.mem_cons_self
      exact stretch_len this.1 (by omega) this.2.2
  have br : okBR (qs.map fun q => stretch w q.1 q.2) := by
    refine ⟨fun e => ?_, by rw [List.length_map]; omega, by rw [hw]; omega, fun r hr => ?_⟩
    · have := congrArg List.length e
      rw [List.length_map] at this
      simp at this
      rw [this] at ne
      simp at ne
    · obtain ⟨q, hq, rfl⟩ := List.mem_map.mp hr
      have := h.each q hq
      rw [hw, stretch_len this.1 (by omega) this.2.2]
  refine ⟨br, by rw [List.length_map]; exact l6, by rw [hw]; omega, by rw [hw]; omega, fun e => ?_, conn_iff (fun p => (strs_bit h).symm) (bands_conn B), conn_iff (fun p => ?_) (bands_out B)⟩
  · have z := B.l0 0 (by omega) (by omega)
    have m : (loOf qs 0, 0) ∈ lawCells (qs.map fun q => stretch w q.1 q.2) := (strs_bit h).mpr ⟨by show (0 : Int) ≤ 0; omega, by show (0 : Int) < qs.length; omega, by show loOf qs 0 ≤ loOf qs 0; omega, z.2.1⟩
    rw [e] at m
    cases m
  · rw [mem_out, hw, List.length_map, strs_bit h]
    unfold outBand
    have e : ((w.toNat : Nat) : Int) = w := by omega
    rw [e]
    constructor
    · rintro ⟨a, b, c, d, f⟩
      exact ⟨⟨a, b⟩, ⟨c, d⟩, f⟩
    · rintro ⟨⟨a, b⟩, ⟨c, d⟩, f⟩
      exact ⟨a, b, c, d, f⟩
theorem fine_rowsBy (cell more : Int) (even : Bool) : Fine (rowsBy cell more even) := by
  have g0 : DrOk (2 + cell % 5) ⟨[], 0, 2 + cell % 5 - 1⟩ := ⟨by omega, by omega, by show (0 : Int) ≤ 0; omega, by show (0 : Int) ≤ 2 + cell % 5 - 1; omega, by show 2 + cell % 5 - 1 ≤ 2 + cell % 5 - 1; omega⟩
  obtain ⟨qs, e1, e2, e3, _⟩ := fold_strs (more := more) (even := even) (rangeI 0 (1 + cell / 5 % 6).toNat) _ g0
  have e : rowsBy cell more even = qs.map fun q => stretch (2 + cell % 5) q.1 q.2 := by
    unfold rowsBy
    rw [e1]
    rfl
  rw [rangeI_length] at e2
  rw [e]
  exact fine_strs e3 (by omega) (by omega) (by omega)
/-! ### turned about -/
theorem turned_get {rows : BR} {x : Int} (h0 : 0 ≤ x) (h : x < wd rows) : (turned rows)[x.toNat]? = some ⟨(rows.map fun r => (⟨[r.bs.getD x.toNat false]⟩ : Row)).map Row.bs |>.flatten⟩ := by
  unfold turned
  rw [List.getElem?_map, rangeI_get (by omega)]
  simp only [Option.map_some, Option.some.injEq, Row.mk.injEq]
  have e : ((0 : Int) + (x.toNat : Int)).toNat = x.toNat := by omega
  rw [e]
theorem flat_bits (rows : BR) (k : Nat) : ((rows.map fun r => (⟨[r.bs.getD k false]⟩ : Row)).map Row.bs).flatten = rows.map fun r => r.bs.getD k false := by
  induction rows with
  | nil => rfl
  | cons r l ih =>
    simp only [List.map_cons, List.flatten_cons, ih]
    rfl
theorem turned_len {rows : BR} : (turned rows).length = wd rows := by
  unfold turned
  rw [List.length_map, rangeI_length]
theorem turned_row {rows : BR} {r : Row} (h : r ∈ turned rows) : r.bs.length = rows.length := by
  unfold turned at h
  obtain ⟨x, _, rfl⟩ := List.mem_map.mp h
  show (List.flatten _).length = _
  rw [flat_bits, List.length_map]
theorem turned_bit {rows : BR} (same : ∀ r ∈ rows, r.bs.length = wd rows) {p : Pt} (h1 : 0 ≤ p.1) (h2 : 0 ≤ p.2) : bit (turned rows) p = bit rows (flip p) := by
  obtain ⟨x, y⟩ := p
  have h1 : 0 ≤ x := h1
  have h2 : 0 ≤ y := h2
  show (rowAt (turned rows) y).bs.getD x.toNat false = (rowAt rows x).bs.getD y.toNat false
  by_cases hy : y < wd rows
  · have e : rowAt (turned rows) y = ⟨rows.map fun r => r.bs.getD y.toNat false⟩ := by
      unfold rowAt
      rw [List.getD_eq_getElem?_getD, turned_get h2 hy, flat_bits]
      rfl
    rw [e]
    show (rows.map fun r => r.bs.getD y.toNat false).getD x.toNat false = _
    unfold rowAt
    rw [List.getD_eq_getElem?_getD, List.getD_eq_getElem?_getD, List.getElem?_map, List.getD_eq_getElem?_getD]
    cases rows[x.toNat]? with
    | none => simp
    | some r => simp [List.getD_eq_getElem?_getD]
  · have e : rowAt (turned rows) y = ⟨[]⟩ := by
      unfold rowAt
      rw [List.getD_eq_getElem?_getD, List.getElem?_eq_none (by rw [turned_len]; omega)]
      rfl
    rw [e]
    have e2 : (rowAt rows x).bs.length ≤ y.toNat := by
      unfold rowAt
      rw [List.getD_eq_getElem?_getD]
      cases h : rows[x.toNat]? with
      | none => simp
      | some r =>
        have := same r (List.mem_of_getElem? h)
        show r.bs.length ≤ y.toNat
        omega
    rw [List.getD_eq_getElem?_getD, List.getD_eq_getElem?_getD, List.getElem?_eq_none e2]
    simp
theorem turned_cells {rows : BR} (same : ∀ r ∈ rows, r.bs.length = wd rows) {p : Pt} : p ∈ lawCells (turned rows) ↔ flip p ∈ lawCells rows := by
  rw [mem_lawCells, mem_lawCells]
  constructor
  · rintro ⟨h1, h2, h3⟩
    rw [turned_bit same h1 h2] at h3
    exact ⟨h2, h1, h3⟩
  · rintro ⟨h1, h2, h3⟩
    refine ⟨h2, h1, ?_⟩
    rw [turned_bit same h2 h1]
    exact h3
theorem fine_turned {rows : BR} (f : Fine rows) : Fine (turned rows) := by
  obtain ⟨br, len, w1, w6, ne, conn, out⟩ := f
  obtain ⟨hne, _, _, same⟩ := br
  have pos : 0 < rows.length := List.length_pos_iff.mpr hne
  have tne : turned rows ≠ [] := fun e => by
    have := turned_len (rows := rows)
    rw [e] at this
    simp at this
    omega
  have twd : wd (turned rows) = rows.length := by
    unfold wd
    cases h : turned rows with
    | nil => exact absurd h tne
    | cons r l => exact turned_row (by rw [h]; exact List.mem_cons_self)
  have tl := turned_len (rows := rows)
  refine ⟨⟨tne, by omega, by omega, fun r hr => by rw [twd, turned_row hr]⟩, by omega, by omega, by omega, fun e => ?_, conn_iff (fun p => (turned_cells same).symm) (conn_flip conn), conn_iff (fun p => ?_) (conn_flip out)⟩
  · obtain ⟨c, hc⟩ := List.exists_mem_of_ne_nil _ ne
    have m : flip c ∈ lawCells (turned rows) := (turned_cells same).mpr hc
    rw [e] at m
    cases m
  · rw [mem_out, mem_out, turned_cells same, twd, tl]
    unfold flip
    constructor
    · rintro ⟨a, b, c⟩
      exact ⟨b, a, c⟩
    · rintro ⟨a, b, c⟩
      exact ⟨b, a, c⟩
/-! ### the four others -/
/-- what is reached in n steps -/
def reachL (ps : List Pt) : Nat → List Pt → List Pt
  | 0, a => a
  | n + 1, a => reachL ps n (a ++ ps.filter fun p => !a.contains p && (beside4 p).any fun q => a.contains q)
theorem reachL_ok {ps : List Pt} {h : Pt} : ∀ (n : Nat) (a : List Pt), (∀ p ∈ a, p ∈ ps ∧ Rch (fun p => p ∈ ps) h p) → ∀ p ∈ reachL ps n a, Rch (fun p => p ∈ ps) h p
  | 0, a, k, p, hp => (k p hp).2
  | n + 1, a, k, p, hp => by
    refine reachL_ok n _ (fun q hq => ?_) p hp
    rcases List.mem_append.mp hq with z | z
    · exact k q z
    · obtain ⟨z1, z2⟩ := List.mem_filter.mp z
      simp only [Bool.and_eq_true, List.any_eq_true] at z2
      obtain ⟨_, u, u1, u2⟩ := z2
      exact ⟨z1, .step (k u (by simpa using u2)).2 (beside_sym u1) z1⟩
theorem conn_check {ps : List Pt} {n : Nat} {h : Pt} (hh : h ∈ ps) (c : (ps.all fun p => (reachL ps n [h]).contains p) = true) : ConnS fun p => p ∈ ps := by
  have all : ∀ p ∈ ps, Rch (fun p => p ∈ ps) h p := fun p hp => by
    have := List.all_eq_true.mp c p hp
    exact reachL_ok n [h] (fun q hq => by rw [List.mem_singleton.mp hq]; exact ⟨hh, .refl⟩) p (by simpa using this)
  exact conn_hub (h := h) fun a ha => (all a ha).sym hh
/-- the whole look at written rows -/
def fineB (rows : BR) : Bool := decide (rows ≠ []) && decide (rows.length ≤ 6) && decide (1 ≤ wd rows) && decide (wd rows ≤ 6) && rows.all (fun r => decide (r.bs.length = wd rows)) && decide (lawCells rows ≠ []) &&
  ((lawCells rows).all fun p => (reachL (lawCells rows) 30 [(lawCells rows).headD (0, 0)]).contains p) && ((without (rtexts rows) (lawCells rows)).all fun p => (reachL (without (rtexts rows) (lawCells rows)) 30 [(-1, -1)]).contains p)
theorem fine_check {rows : BR} (h : fineB rows = true) : Fine rows := by
  unfold fineB at h
  simp only [Bool.and_eq_true] at h
  obtain ⟨⟨⟨⟨⟨⟨⟨h1, h2⟩, h3⟩, h4⟩, h5⟩, h6⟩, h7⟩, h8⟩ := h
  have h1 := of_decide_eq_true h1
  have h2 := of_decide_eq_true h2
  have h3 := of_decide_eq_true h3
  have h4 := of_decide_eq_true h4
  have h6 := of_decide_eq_true h6
  have hd : (lawCells rows).headD (0, 0) ∈ lawCells rows := by
    cases e : lawCells rows with
    | nil => exact absurd e h6
    | cons a l => exact List.mem_cons_self
  refine ⟨⟨h1, by omega, by omega, fun r hr => of_decide_eq_true (List.all_eq_true.mp h5 r hr)⟩, h2, h3, h4, h6, conn_check hd h7, conn_check ?_ h8⟩
  rw [mem_out]
  refine ⟨⟨by show (-1 : Int) ≤ -1; omega, by show (-1 : Int) ≤ wd rows; omega⟩, ⟨by show (-1 : Int) ≤ -1; omega, by show (-1 : Int) ≤ rows.length; omega⟩, fun z => ?_⟩
  have := (mem_lawCells.mp z).1
  have this : (0 : Int) ≤ -1 := this
  omega
theorem fixed_fine : ∀ rows ∈ fixed4, fineB rows = true := by decide +kernel
def otherRows : BR := [pr "##", pr "#."]
theorem other_fine : Fine otherRows := fine_check (by decide +kernel)
theorem other_cells : lawCells otherRows = [(0, 0), (1, 0), (0, 1)] := by decide +kernel
/-- whatever is drawn is a floor -/
theorem fine_any (ns : List Int) : Fine (anyRows ns) := by
  unfold anyRows
  split
  · have hi : (cellAt ns 0 / 9 % 4).toNat < fixed4.length := by
      show _ < 4
      omega
    obtain ⟨q, e1, e2⟩ := getD_some (x := ([] : BR)) hi
    rw [e2]
    exact fine_check (fixed_fine q (List.mem_of_getElem? e1))
  · split
    · exact fine_turned (fine_rowsBy _ _ _)
    · exact fine_rowsBy _ _ _
theorem good_fine {K : PySem.W.Frag} {rows : BR} (f : Fine rows) : Good K (flOf (He.ga K "Floor") (rtexts rows)) rows (lawCells rows) := good_of f.br f.rows
theorem judgeD_fine {rows : BR} (f : Fine rows) : judgeD (d (rtexts rows)) = none := by
  rw [judgeD_rows (rows_are f.rows)]
  exact f.judge
theorem okRows_fine {rows : BR} (f : Fine rows) : okRows (d (rtexts rows)) := by
  refine ⟨rfl, fun xs e => ?_⟩
  have e' : PyData.list ((rtexts rows).map d) = .list xs := e
  injection e' with e'
  subst e'
  have R := f.rows
  refine ⟨by rw [List.length_map]; have := R.len; omega, fun x hx => ?_⟩
  obtain ⟨r, hr, rfl⟩ := List.mem_map.mp hx
  refine ⟨rfl, fun s e => ?_⟩
  have e2 : PyData.str r = .str s := e
  injection e2 with e2
  subst e2
  have := R.one hr
  omega
end Tf

/-! What is known of the slots, as data; judgements that speak of no frame. -/
namespace Tf
open PySem PySem.Spec PyProof.Rows L2 Dt
/-- what is known of a slot: nothing; data of the frame; at p data that is written here alone; a value -/
inductive Sl
  | no
  | sh (e : PyData)
  | ow (p : Addr) (e : PyData)
  | raw (v : V)
  | sc (K : PySem.W.Frag) (ns : List Int)
def hid1 : Sl → Sl
  | .ow _ _ => .no
  | .no => .no
  | .sh e => .sh e
  | .raw v => .raw v
  | .sc K ns => .sc K ns
def see1 : Sl → Sl
  | .ow _ e => .sh e
  | .no => .no
  | .sh e => .sh e
  | .raw v => .raw v
  | .sc K ns => .sc K ns
def hid (Γ : List Sl) : List Sl := Γ.map hid1
def see (Γ : List Sl) : List Sl := Γ.map see1
/-- at p, in no frame, a list or a dict -/
inductive OwnX (F H : Hp) (p : Addr) : PyData → Prop
  | lst {us : List V} {es : List PyData} (at_ : H p = some (.lst us)) (all : RvL F us es) : OwnX F H p (.list es)
  | dic {ks : List (List Key)} {us : List V} {es : List PyData} (at_ : H p = some (.dT (ks.zip us))) (len : ks.length = us.length) (all : RvL F us es) : OwnX F H p (.dict ((ks.map keyD).zip es))
section
variable {T : List (Addr × Str)} {F G F0 H0 F1 H1 H : Hp} {p q : Addr} {e : PyData}
theorem OwnX.obj (o : OwnX F H p e) : ∃ u, H p = some u ∧ notTbl u ∧ notTup u ∧ ∀ φ, u ≠ .ext φ := by
  cases o with
  | lst a r => exact ⟨_, a, nt_lst, fun _ z => (by cases z), fun _ z => (by cases z)⟩
  | dic a l r => exact ⟨_, a, nt_dT, fun _ z => (by cases z), fun _ z => (by cases z)⟩
theorem OwnX.wr (o : OwnX F H p e) : Wr H p := by
  obtain ⟨u, h1, h2, h3, _⟩ := o.obj
  exact ⟨u, h1, h3, h2⟩
theorem OwnX.mono (l : Same F G) (o : OwnX F H p e) : OwnX G H p e := by
  cases o with
  | lst a r => exact .lst a (r.mono l)
  | dic a n r => exact .dic a n (r.mono l)
theorem OwnX.at_ (o : OwnX F H p e) (h : ∀ u, H p = some u → notTbl u → H1 p = some u) : OwnX F H1 p e := by
  cases o with
  | lst a r => exact .lst (h _ a nt_lst) r
  | dic a n r => exact .dic (h _ a nt_dT) n r
theorem OwnX.rv (o : OwnX F H p e) (l : Same F G) (h : G p = H p) : Rv G (.ref p) e := by
  cases o with
  | lst a r => exact .lst (h.trans a) (r.mono l)
  | dic a n r => exact .dic (h.trans a) n (r.mono l)
theorem OwnX.of {α : Type} [Dt α] {xs : List α} (o : Own F H p xs) : OwnX F H p (d xs) := by
  obtain ⟨_, us, a, r⟩ := o
  exact .lst a r
theorem OwnX.own {α : Type} [Dt α] {xs : List α} (o : OwnX F H p (d xs)) (h : F p = none) : Own F H p xs := by
  have o' : OwnX F H p (.list (xs.map d)) := o
  cases o' with
  | lst a r => exact ⟨h, _, a, r⟩
theorem OwnX.ofD {ν : Type} [Dt ν] {D : Dc ν} (o : OwnD F H p D) : OwnX F H p (d D) := by
  obtain ⟨_, kvs, a, r⟩ := o
  obtain ⟨us, h1, h2, h3⟩ := r.split
  rw [h1] at a
  have z := OwnX.dic a h2 h3
  have q : ((D.l.map fun p => kk p.1).map keyD).zip (D.l.map fun p => d p.2) = D.l.map fun p => (d p.1, d p.2) := by
    rw [List.map_map, zip_map_map]
    rfl
  rw [q] at z
  exact z
theorem OwnX.ownD {ν : Type} [Dt ν] {D : Dc ν} (o : OwnX F H p (d D)) (h : F p = none) : OwnD F H p D := by
  have o' : OwnX F H p (.dict (D.l.map fun p => ((d p.1 : PyData), (d p.2 : PyData)))) := o
  generalize he : (D.l.map fun p => ((d p.1 : PyData), (d p.2 : PyData))) = es at o'
  cases o' with
  | dic a l r => exact ⟨h, _, a, rvk_of l r he.symm⟩
end
/-! ### slots that are known -/
structure Sh (F : Hp) (σ : St) (Δ : List Sl) : Prop where
  len : σ.length = Δ.length
  sh : ∀ (i : Nat) (e : PyData), Δ[i]? = some (.sh e) → ∃ v, σ[i]? = some (some v) ∧ Rv F v e
  raw : ∀ (i : Nat) (v : V), Δ[i]? = some (.raw v) → σ[i]? = some (some v)
  sc : ∀ (i : Nat) (K : PySem.W.Frag) (ns : List Int), Δ[i]? = some (.sc K ns) → ∃ v, σ[i]? = some (some v) ∧ Sc K F v ns
def wipeS (Δ : List Sl) : List Nat → List Sl
  | [] => Δ
  | v :: vs => (wipeS Δ vs).set v .no
section
variable {F G : Hp} {σ : St} {Δ : List Sl}
theorem Sh.mono (l : Same F G) (h : Sh F σ Δ) : Sh G σ Δ := ⟨h.len, fun i e q => by
  obtain ⟨v, a, b⟩ := h.sh i e q
  exact ⟨v, a, b.mono l⟩, h.raw, fun i K ns q => by
  obtain ⟨v, a, b⟩ := h.sc i K ns q
  exact ⟨v, a, b.mono l⟩⟩
theorem get_set {α : Type} {l : List α} {i j : Nat} {x y : α} (h : (l.set i x)[j]? = some y) : (i = j ∧ i < l.length ∧ y = x) ∨ (i ≠ j ∧ l[j]? = some y) := by
  rw [List.getElem?_set] at h
  by_cases e : i = j
  · rw [if_pos e] at h
    split at h
    · rename_i hl
      exact .inl ⟨e, by omega, (Option.some.inj h).symm⟩
    · cases h
  · rw [if_neg e] at h
    exact .inr ⟨e, h⟩
theorem Sh.set {i : Nat} {v : V} {e : PyData} (h : Sh F σ Δ) (r : Rv F v e) : Sh F (σ.set i (some v)) (Δ.set i (.sh e)) := by
  refine ⟨by simp [h.len], fun j e' q => ?_, fun j w q => ?_, fun j K' ns q => ?_⟩
  · rcases get_set q with ⟨rfl, hl, z⟩ | ⟨n, z⟩
    · cases z
      exact ⟨v, by rw [List.getElem?_set_self (by rw [h.len]; exact hl)], r⟩
    · rw [List.getElem?_set_ne n]
      exact h.sh j e' z
  · rcases get_set q with ⟨rfl, hl, z⟩ | ⟨n, z⟩
    · cases z
    · rw [List.getElem?_set_ne n]
      exact h.raw j w z
  · rcases get_set q with ⟨rfl, hl, z⟩ | ⟨n, z⟩
    · cases z
    · rw [List.getElem?_set_ne n]
      exact h.sc j K' ns z
theorem Sh.drop {i : Nat} {o : Option V} (h : Sh F σ Δ) : Sh F (σ.set i o) (Δ.set i .no) := by
  refine ⟨by simp [h.len], fun j e' q => ?_, fun j w q => ?_, fun j K' ns q => ?_⟩
  · rcases get_set q with ⟨rfl, hl, z⟩ | ⟨n, z⟩
    · cases z
    · rw [List.getElem?_set_ne n]
      exact h.sh j e' z
  · rcases get_set q with ⟨rfl, hl, z⟩ | ⟨n, z⟩
    · cases z
    · rw [List.getElem?_set_ne n]
      exact h.raw j w z
  · rcases get_set q with ⟨rfl, hl, z⟩ | ⟨n, z⟩
    · cases z
    · rw [List.getElem?_set_ne n]
      exact h.sc j K' ns z
theorem Sh.wipe (h : Sh F σ Δ) : ∀ vs : List Nat, Sh F (L2.wipe σ vs) (wipeS Δ vs)
  | [] => h
  | _ :: vs => (h.wipe vs).drop
/-- slots taken one behind another -/
def sets (σ : St) : List Nat → List V → St
  | i :: is, v :: vs => sets (σ.set i (some v)) is vs
  | _, _ => σ
def setsG (Γ : List Sl) : List (Nat × PyData) → List Sl
  | [] => Γ
  | b :: bs => setsG (Γ.set b.1 (.sh b.2)) bs
theorem Sh.sets : ∀ {bs : List (Nat × PyData)} {σ : St} {Δ : List Sl} {vs : List V}, Sh F σ Δ → RvL F vs (bs.map (·.2)) → Sh F (Tf.sets σ (bs.map (·.1)) vs) (setsG Δ bs)
  | [], _, _, _, h, r => by
    cases r
    exact h
  | b :: bs, _, _, _, h, r => by
    cases r with
    | @cons u us _ _ a r =>
      have z := Sh.sets (bs := bs) (h.set (i := b.1) a) r
      exact z
theorem mem_wipe_none {i : Nat} : ∀ {vs : List Nat} {σ : St}, i ∈ vs → i < σ.length → (L2.wipe σ vs)[i]? = some none
  | v :: vs, σ, h, hl => by
    unfold L2.wipe
    by_cases e : v = i
    · subst e
      rw [List.getElem?_set_self (by rw [wipe_length]; exact hl)]
    · rw [List.getElem?_set_ne e]
      rcases List.mem_cons.mp h with z | z
      · exact absurd z.symm e
      · exact mem_wipe_none z hl
theorem wipe_set {i : Nat} {o : Option V} {vs : List Nat} {σ : St} (h : i ∈ vs) : L2.wipe (σ.set i o) vs = L2.wipe σ vs := by
  apply List.ext_getElem?
  intro j
  by_cases hj : j ∈ vs
  · by_cases hl : j < σ.length
    · rw [mem_wipe_none hj hl, mem_wipe_none hj (by simpa using hl)]
    · rw [List.getElem?_eq_none (by rw [wipe_length, List.length_set]; omega), List.getElem?_eq_none (by rw [wipe_length]; omega)]
  · rw [wipe_out hj, wipe_out hj, List.getElem?_set_ne (fun e => hj (by rw [← e]; exact h))]
theorem wipe_sets : ∀ {is : List Nat} {xs : List V} {vs : List Nat} {σ : St}, (∀ i ∈ is, i ∈ vs) → L2.wipe (Tf.sets σ is xs) vs = L2.wipe σ vs
  | [], _, _, _, _ => rfl
  | i :: is, [], _, _, _ => rfl
  | i :: is, x :: xs, vs, σ, h => by
    show L2.wipe (Tf.sets (σ.set i (some x)) is xs) vs = _
    rw [wipe_sets fun j hj => h j (List.mem_cons_of_mem _ hj), wipe_set (h i List.mem_cons_self)]
theorem wipe_wipe {vs : List Nat} {σ : St} : L2.wipe (L2.wipe σ vs) vs = L2.wipe σ vs := by
  apply List.ext_getElem?
  intro j
  by_cases hj : j ∈ vs
  · by_cases hl : j < σ.length
    · rw [mem_wipe_none hj hl, mem_wipe_none hj (by rw [wipe_length]; exact hl)]
    · rw [List.getElem?_eq_none (by rw [wipe_length, wipe_length]; omega), List.getElem?_eq_none (by rw [wipe_length]; omega)]
  · rw [wipe_out hj]
end
/-! ### judgements -/
section
variable (T : List (Addr × Str))
/-- te gives e -/
def Ex (Δ : List Sl) (te : TE) (e : PyData) : Prop := ∀ (σ : St) (F : Hp), Sh F σ Δ → ∀ H, Sub F H → LamX.Tabs T H → ∀ Q : VK, (∀ v F' H', Step T F F' H H' → Rv F' v e → Q v H') → te σ H Q
/-- the same, and an object that is given is new -/
def ExN (Δ : List Sl) (te : TE) (e : PyData) : Prop := ∀ (σ : St) (F : Hp), Sh F σ Δ → ∀ H, Sub F H → LamX.Tabs T H → ∀ Q : VK, (∀ v F' H', Step T F F' H H' → Rv F' v e → (∀ p, v = .ref p → H p = none) → Q v H') → te σ H Q
def Et (Δ : List Sl) (tt : TT) (b : Bool) : Prop := ∀ (σ : St) (F : Hp), Sh F σ Δ → EvT T tt σ F b
def Ea (Δ : List Sl) (ta : TA) (es : List PyData) : Prop := ∀ (σ : St) (F : Hp), Sh F σ Δ → EvA T ta σ F es
def Ei (Δ : List Sl) (wi : TI) (es : List PyData) : Prop := ∀ (σ : St) (F : Hp), Sh F σ Δ → EvI T wi σ F es
/-- a display's items: e is the list of them -/
def Exs (Δ : List Sl) (tr : TA) (e : PyData) : Prop := ∃ es, e = .list es ∧ Ea T Δ tr es
end
/-- the target g takes e: its slots, what they hold -/
def Bd (g : TG) (e : PyData) (bs : List (Nat × PyData)) : Prop := ∀ (F : Hp) (v : V), Rv F v e → ∃ ws, RvL F ws (bs.map (·.2)) ∧ ∀ (H : Hp) (σ : St) (Q : St → Hp → Prop), Sub F H → Q (sets σ (bs.map (·.1)) ws) H → g v σ H Q
def BdS (g : TGs) (es : List PyData) (bs : List (Nat × PyData)) : Prop := ∀ (F : Hp) (us : List V), RvL F us es → ∃ ws, RvL F ws (bs.map (·.2)) ∧ ∀ (H : Hp) (σ : St) (Q : St → Hp → Prop), Sub F H → Q (sets σ (bs.map (·.1)) ws) H → g us σ H Q
section
variable {T : List (Addr × Str)} {α β γ ν : Type} {Δ : List Sl} {te ta tb tc : TE} {tr : TA} {tt tu : TT} {K : PySem.W.Frag} {wi : TI} {e : PyData} {es : List PyData} {g : TG} {gs : TGs} {bs bs' : List (Nat × PyData)} {σ : St} {F : Hp}
theorem Ex.at {_ : Dt α} {x : α} (h : Ex T Δ te (d x)) (s : Sh F σ Δ) : Ev T te σ F x := h σ F s
theorem Ex.of {_ : Dt α} {x : α} (h : ∀ (σ : St) (F : Hp), Sh F σ Δ → Ev T te σ F x) : Ex T Δ te (d x) := h
theorem Ex.atX (h : Ex T Δ te e) (s : Sh F σ Δ) : Ev T te σ F e := h σ F s
theorem Ex.ofX (h : ∀ (σ : St) (F : Hp), Sh F σ Δ → Ev T te σ F e) : Ex T Δ te e := h
theorem ExN.at {_ : Dt α} {x : α} (h : ExN T Δ te (d x)) (s : Sh F σ Δ) : EvN T te σ F x := h σ F s
theorem ExN.of {_ : Dt α} {x : α} (h : ∀ (σ : St) (F : Hp), Sh F σ Δ → EvN T te σ F x) : ExN T Δ te (d x) := h
theorem ExN.ex (h : ExN T Δ te e) : Ex T Δ te e := fun σ F s H su t Q q => h σ F s H su t Q fun v F' H' st r _ => q v F' H' st r
theorem ex_eq {e e' : PyData} (h : Ex T Δ te e) (q : e = e') : Ex T Δ te e' := q ▸ h
theorem exN_eq {e e' : PyData} (h : ExN T Δ te e) (q : e = e') : ExN T Δ te e' := q ▸ h
theorem et_eq {b b' : Bool} (h : Et T Δ tt b) (q : b = b') : Et T Δ tt b' := q ▸ h
theorem ei_eq {es es' : List PyData} (h : Ei T Δ wi es) (q : es = es') : Ei T Δ wi es' := q ▸ h
/-! names, constants -/
theorem ex_var {i : Nat} (h : Δ[i]? = some (.sh e)) : Ex T Δ (tVar i) e := fun σ F s H su t Q q => by
  obtain ⟨v, a, r⟩ := s.sh i e h
  exact ⟨v, a, q v F H (.refl su t) r⟩
theorem ex_int {i : Int} : Ex T Δ (tC (.int i)) (d i) := .of fun _ _ _ => ev_int
theorem ex_str {i : Str} : Ex T Δ (tC (.str i)) (d i) := .of fun _ _ _ => ev_str
theorem ex_bool {i : Bool} : Ex T Δ (tC (.bl i)) (d i) := .of fun _ _ _ => ev_bool
theorem ex_none : Ex T Δ (tC .non) (d ()) := .of fun _ _ _ => ev_none
/-! numbers -/
theorem ex_add {i j : Int} (ha : Ex T Δ ta (d i)) (hb : Ex T Δ tb (d j)) : Ex T Δ (tOp rAddU ta tb) (d (i + j)) := .of fun _ _ s => ev_add (ha.at s) (hb.at s)
theorem ex_sub {i j : Int} (ha : Ex T Δ ta (d i)) (hb : Ex T Δ tb (d j)) : Ex T Δ (tOp (rI0 fun i j => .int (i - j)) ta tb) (d (i - j)) := .of fun _ _ s => ev_sub (ha.at s) (hb.at s)
theorem ex_mul {i j : Int} (ha : Ex T Δ ta (d i)) (hb : Ex T Δ tb (d j)) (h : CMul i j) : Ex T Δ (tOp rMulU ta tb) (d (i * j)) := .of fun _ _ s => ev_mul (ha.at s) (hb.at s) h
theorem ex_mod {i j : Int} (ha : Ex T Δ ta (d i)) (hb : Ex T Δ tb (d j)) (h : 0 < j) : Ex T Δ (tOp (rI (fun _ j => 0 < j) fun i j => .int (i % j)) ta tb) (d (i % j)) := .of fun _ _ s => ev_mod (ha.at s) (hb.at s) h
theorem ex_fdiv {i j : Int} (ha : Ex T Δ ta (d i)) (hb : Ex T Δ tb (d j)) (h : 0 < j ∧ j < 1073741824) : Ex T Δ (tOp (rI CDiv fun i j => .int (i / j)) ta tb) (d (i / j)) := .of fun _ _ s => ev_fdiv (ha.at s) (hb.at s) h
theorem ex_neg {i : Int} (ha : Ex T Δ ta (d i)) : Ex T Δ (tUn (rU fun i => .int (-i)) ta) (d (-i)) := .of fun _ _ s => ev_neg (ha.at s)
theorem ex_lt {i j : Int} (ha : Ex T Δ ta (d i)) (hb : Ex T Δ tb (d j)) : Ex T Δ (tOp (rLtU K) ta tb) (d (decide (i < j))) := .of fun _ _ s => ev_lt (ha.at s) (hb.at s)
theorem ex_le {i j : Int} (ha : Ex T Δ ta (d i)) (hb : Ex T Δ tb (d j)) : Ex T Δ (tOp (rI0 fun i j => .bl (decide (i ≤ j))) ta tb) (d (decide (i ≤ j))) := .of fun _ _ s => ev_cmpI (p := fun i j => decide (i ≤ j)) (ha.at s) (hb.at s)
theorem ex_gt {i j : Int} (ha : Ex T Δ ta (d i)) (hb : Ex T Δ tb (d j)) : Ex T Δ (tOp (rI0 fun i j => .bl (decide (j < i))) ta tb) (d (decide (j < i))) := .of fun _ _ s => ev_cmpI (p := fun i j => decide (j < i)) (ha.at s) (hb.at s)
theorem ex_ge {i j : Int} (ha : Ex T Δ ta (d i)) (hb : Ex T Δ tb (d j)) : Ex T Δ (tOp (rI0 fun i j => .bl (decide (j ≤ i))) ta tb) (d (decide (j ≤ i))) := .of fun _ _ s => ev_cmpI (p := fun i j => decide (j ≤ i)) (ha.at s) (hb.at s)
theorem ex_chain {p p' : Int → Int → Bool} {i j k : Int} (ha : Ex T Δ ta (d i)) (hb : Ex T Δ tb (d j)) (hc : Ex T Δ tc (d k)) : Ex T Δ (tChain (rI0 fun i j => .bl (p i j)) (rI0 fun i j => .bl (p' i j)) ta tb tc) (d (p i j && p' j k)) := .of fun _ _ s => ev_chain (ha.at s) (hb.at s) (hc.at s)
theorem ex_ltP {x y : Int × Int} (ha : Ex T Δ ta (d x)) (hb : Ex T Δ tb (d y)) : Ex T Δ (tOp (rLtU K) ta tb) (d (HT.lexLt [x.1, x.2] [y.1, y.2])) := .of fun _ _ s => ev_ltP (a := 0) (b := 0) (c := 0) (e := 0) (ha.at s) (hb.at s)
theorem ex_max2 {i j : Int} (ha : Ex T Δ ta (d i)) (hb : Ex T Δ tb (d j)) : Ex T Δ (tCB (fun xs H Q => ∃ i j, xs = [.int i, .int j] ∧ Q (.int (if j > i then j else i)) H) (tCons ta (tCons tb tNil))) (d (if j > i then j else i)) := .of fun _ _ s => ev_max2 (ha.at s) (hb.at s)
theorem ex_min2 {i j : Int} (ha : Ex T Δ ta (d i)) (hb : Ex T Δ tb (d j)) : Ex T Δ (tCB (fun xs H Q => ∃ i j, xs = [.int i, .int j] ∧ Q (.int (if j < i then j else i)) H) (tCons ta (tCons tb tNil))) (d (if j < i then j else i)) := .of fun _ _ s => ev_min2 (ha.at s) (hb.at s)
/-! == and in -/
theorem ex_eqI {x y : Int} (ha : Ex T Δ ta (d x)) (hb : Ex T Δ tb (d y)) : Ex T Δ (tOp (rEqD K) ta tb) (d (decide (x = y))) := .of fun _ _ s => ev_eqD (ha.at s) (hb.at s)
theorem ex_neI {x y : Int} (ha : Ex T Δ ta (d x)) (hb : Ex T Δ tb (d y)) : Ex T Δ (tOp (rNeD K) ta tb) (d (!decide (x = y))) := .of fun _ _ s => ev_neD (ha.at s) (hb.at s)
theorem ex_eqD {x y : α} [Dt α] [h : Dq α] (ha : Ex T Δ ta (d x)) (hb : Ex T Δ tb (d y)) (hd : Dq.dep α ≤ 64 := by decide) : Ex T Δ (tOp (rEqD K) ta tb) (d (@decide (x = y) (h.dec x y))) := .of fun _ _ s => ev_eqD (ha.at s) (hb.at s) hd
theorem ex_neD {x y : α} [Dt α] [h : Dq α] (ha : Ex T Δ ta (d x)) (hb : Ex T Δ tb (d y)) (hd : Dq.dep α ≤ 64 := by decide) : Ex T Δ (tOp (rNeD K) ta tb) (d (!(@decide (x = y) (h.dec x y)))) := .of fun _ _ s => ev_neD (ha.at s) (hb.at s) hd
theorem ex_eqX {x y : PyData} (ha : Ex T Δ ta x) (hb : Ex T Δ tb y) (hx : SeqAt.shaped x = true) (hy : SeqAt.shaped y = true) : Ex T Δ (tOp (rEqD K) ta tb) (d (PyData.eqv x y)) := .of fun _ _ s => ev_eqX (ha.atX s) (hb.atX s) hx hy
theorem ex_neX {x y : PyData} (ha : Ex T Δ ta x) (hb : Ex T Δ tb y) (hx : SeqAt.shaped x = true) (hy : SeqAt.shaped y = true) : Ex T Δ (tOp (rNeD K) ta tb) (d (!PyData.eqv x y)) := .of fun _ _ s => ev_neX (ha.atX s) (hb.atX s) hx hy
theorem ex_in {x : Pt} {xs : List Pt} (ha : Ex T Δ ta (d x)) (hb : Ex T Δ tb (d xs)) : Ex T Δ (tOr2 (tOp (rInU K) ta tb) (tDIn ta tb)) (d (decide (x ∈ xs))) := .of fun _ _ s => ev_eq (ev_in (ha.at s) (hb.at s)) (decide_eq_decide.mpr Iff.rfl)
theorem ex_notin {x : Pt} {xs : List Pt} (ha : Ex T Δ ta (d x)) (hb : Ex T Δ tb (d xs)) : Ex T Δ (tOr2 (tOp (rNotInU K) ta tb) (tDNotIn ta tb)) (d (!decide (x ∈ xs))) := .of fun _ _ s => ev_eq (ev_notin (ha.at s) (hb.at s)) (congrArg (! ·) (decide_eq_decide.mpr Iff.rfl))
theorem ex_inD [Dt ν] {x : Pt} {D : Dc ν} (ha : Ex T Δ ta (d x)) (hb : Ex T Δ tb (d D)) : Ex T Δ (tOr2 (tOp (rInU K) ta tb) (tDIn ta tb)) (d (D.get x).isSome) := .of fun _ _ s => ev_dIn (ha.at s) (hb.at s)
theorem ex_notinD [Dt ν] {x : Pt} {D : Dc ν} (ha : Ex T Δ ta (d x)) (hb : Ex T Δ tb (d D)) : Ex T Δ (tOr2 (tOp (rNotInU K) ta tb) (tDNotIn ta tb)) (d (!(D.get x).isSome)) := .of fun _ _ s => ev_dNotIn (ha.at s) (hb.at s)
/-! tests -/
theorem et_of' {b : Bool} (h : Ex T Δ te (d b)) : Et T Δ (tB te) b := fun _ _ s => et_of (h.at s)
theorem et_test' {b : Bool} (h : Ex T Δ te (d b)) : Et T Δ (tTest te) b := fun _ _ s => et_test (h.at s)
theorem et_tr' {b : Bool} (h : Ex T Δ te (d b)) : Et T Δ (tTr K te) b := fun _ _ s => et_tr (h.at s)
theorem et_trL' {_ : Dt α} {xs : List α} (h : Ex T Δ te (d xs)) : Et T Δ (tTr K te) (!xs.isEmpty) := fun _ _ s => et_trL (h.at s)
theorem et_and' {a b : Bool} (h1 : Et T Δ tt a) (h2 : a = true → Et T Δ tu b) : Et T Δ (tAnd tt tu) (a && b) := fun σ F s => et_and (h1 σ F s) fun z => h2 z σ F s
theorem et_or' {a b : Bool} (h1 : Et T Δ tt a) (h2 : a = false → Et T Δ tu b) : Et T Δ (tOr tt tu) (a || b) := fun σ F s => et_or (h1 σ F s) fun z => h2 z σ F s
theorem et_not' {a : Bool} (h : Et T Δ tt a) : Et T Δ (tNot tt) (!a) := fun σ F s => et_not (h σ F s)
theorem et_yes : Et T Δ tYes true := fun _ _ _ => et_true
theorem ex_andV {a b : Bool} (h1 : Ex T Δ ta (d a)) (h2 : a = true → Ex T Δ tb (d b)) : Ex T Δ (tAndV ta tb) (d (a && b)) := .of fun _ _ s => ev_andV (h1.at s) fun z => (h2 z).at s
theorem ex_orV {a b : Bool} (h1 : Ex T Δ ta (d a)) (h2 : a = false → Ex T Δ tb (d b)) : Ex T Δ (tOrV ta tb) (d (a || b)) := .of fun _ _ s => ev_orV (h1.at s) fun z => (h2 z).at s
theorem ex_notV {a : Bool} (h : Ex T Δ ta (d a)) : Ex T Δ (tNotV ta) (d (!a)) := .of fun _ _ s => ev_notV (h.at s)
theorem ex_if {b : Bool} {x y : PyData} (h : Et T Δ tt b) (h1 : b = true → Ex T Δ ta x) (h2 : b = false → Ex T Δ tb y) : Ex T Δ (tIf tt ta tb) (if b then x else y) := fun σ F s H su t Q q => h σ F s H su t _ fun H1 st => by
  cases b with
  | true => exact h1 rfl σ F s H1 st.sub st.tab Q fun v F2 H2 st2 r2 => q v F2 H2 (st.trans st2) r2
  | false => exact h2 rfl σ F s H1 st.sub st.tab Q fun v F2 H2 st2 r2 => q v F2 H2 (st.trans st2) r2
theorem ex_ifT {_ : Dt α} {b : Bool} {x y : α} (h : Et T Δ tt b) (h1 : b = true → Ex T Δ ta (d x)) (h2 : b = false → Ex T Δ tb (d y)) : Ex T Δ (tIf tt ta tb) (d (if b then x else y)) := ex_eq (ex_if h h1 h2) (by cases b <;> rfl)
/-! displays, items -/
theorem ea_nil' : Ea T Δ tNil [] := fun _ _ _ => ea_nil
theorem ea_cons' (h : Ex T Δ te e) (hr : Ea T Δ tr es) : Ea T Δ (tCons te tr) (e :: es) := fun σ F s => ea_cons (x := e) (h.atX s) (hr σ F s)
theorem ex_tupX (h : Ea T Δ tr es) (hl : es.length ≤ 1000 := by exact Nat.le_of_ble_eq_true rfl) : Ex T Δ (tTup tr) (.tuple es) := .ofX fun σ F s => ev_tup (h σ F s) hl
theorem ex_lstX (h : Ea T Δ tr es) (hl : es.length ≤ 1000 := by exact Nat.le_of_ble_eq_true rfl) : Ex T Δ (tLst tr) (.list es) := .ofX fun σ F s => ev_lst (h σ F s) hl
theorem exN_lstX (h : Ea T Δ tr es) (hl : es.length ≤ 1000 := by exact Nat.le_of_ble_eq_true rfl) : ExN T Δ (tLst tr) (.list es) := fun σ F s H su t Q q => h σ F s H su t _ fun vs F1 H1 st r =>
  ⟨Nat.le_trans (by have := r.length; omega) (by decide : 1000 ≤ sizeLine), fun p hp => q _ (upd F1 p (.lst vs)) _ (st.trans (.made st.sub st.tab hp nt_lst)) (.lst upd_same (r.mono ((Step.made st.sub st.tab hp nt_lst).ff))) fun p' e => by
    cases e
    exact st.ext.live _ hp⟩
theorem ex_pair {_ : Dt α} {_ : Dt β} {x : α} {y : β} (h1 : Ex T Δ ta (d x)) (h2 : Ex T Δ tb (d y)) : Ex T Δ (tTup (tCons ta (tCons tb tNil))) (d (x, y)) := .of fun _ _ s => ev_pair (h1.at s) (h2.at s)
theorem exs_nil {_ : Dt α} : Exs T Δ tNil (d ([] : List α)) := ⟨[], rfl, ea_nil'⟩
theorem exs_cons {_ : Dt α} {x : α} {xs : List α} (h : Ex T Δ te (d x)) (hr : Exs T Δ tr (d xs)) : Exs T Δ (tCons te tr) (d (x :: xs)) := by
  obtain ⟨es, e, r⟩ := hr
  refine ⟨d x :: es, ?_, ea_cons' h r⟩
  have e' : PyData.list (xs.map d) = .list es := e
  injection e' with e'
  rw [← e']
  rfl
theorem exN_lst {_ : Dt α} {xs : List α} (h : Exs T Δ tr (d xs)) (hl : xs.length ≤ 1000 := by exact Nat.le_of_ble_eq_true rfl) : ExN T Δ (tLst tr) (d xs) := by
  obtain ⟨es, e, r⟩ := h
  have e' : PyData.list (xs.map d) = .list es := e
  injection e' with e'
  exact exN_lstX (es := xs.map d) (by rw [e']; exact r) (by rw [List.length_map]; exact hl)
theorem ex_lst {_ : Dt α} {xs : List α} (h : Exs T Δ tr (d xs)) (hl : xs.length ≤ 1000 := by exact Nat.le_of_ble_eq_true rfl) : Ex T Δ (tLst tr) (d xs) := (exN_lst h hl).ex
theorem ex_cat {_ : Dt α} {xs ys : List α} (ha : Ex T Δ ta (d xs)) (hb : Ex T Δ tb (d ys)) (hl : xs.length + ys.length ≤ 100000) : Ex T Δ (tOp rAddU ta tb) (d (xs ++ ys)) := .of fun _ _ s => ev_cat (ha.at s) (hb.at s) hl
theorem ex_ixL {_ : Dt α} {xs : List α} {i : Int} {x : α} (ha : Ex T Δ ta (d xs)) (hb : Ex T Δ tb (d i)) (h0 : 0 ≤ i ∧ xs[i.toNat]? = some x) : Ex T Δ (tIxU K ta tb) (d x) := .of fun _ _ s => ev_ixL (ha.at s) (hb.at s) h0.1 h0.2
theorem ex_ix0 {_ : Dt α} {_ : Dt β} {x : α × β} (ha : Ex T Δ ta (d x)) : Ex T Δ (tIxU K ta (tC (.int 0))) (d x.1) := .of fun _ _ s => ev_ix0 (ha.at s)
theorem ex_ix1 {_ : Dt α} {_ : Dt β} {x : α × β} (ha : Ex T Δ ta (d x)) : Ex T Δ (tIxU K ta (tC (.int 1))) (d x.2) := .of fun _ _ s => ev_ix1 (ha.at s)
theorem ex_dGet {_ : Dt ν} {D : Dc ν} {k : Pt} {x : ν} (ha : Ex T Δ ta (d D)) (hb : Ex T Δ tb (d k)) (h : D.get k = some x) : Ex T Δ (tIxU K ta tb) (d x) := .of fun _ _ s => ev_dGet (ha.at s) (hb.at s) h
/-! built-ins -/
theorem ex_len {_ : Dt α} {xs : List α} (h : Ex T Δ te (d xs)) : Ex T Δ (tCB (rLenU K) (tCons te tNil)) (d (xs.length : Int)) := .of fun _ _ s => ev_len (h.at s)
theorem ex_lenD {_ : Dt ν} {D : Dc ν} (h : Ex T Δ te (d D)) : Ex T Δ (tCB (rLenU K) (tCons te tNil)) (d (D.l.length : Int)) := .of fun _ _ s => ev_dLen (h.at s)
theorem ex_lenS {x : Str} (h : Ex T Δ te (d x)) (hl : x.length ≤ 1000) : Ex T Δ (tCB (rLenU K) (tCons te tNil)) (d (x.length : Int)) := .of fun _ _ s => ev_lenS (h.at s) hl
theorem ex_lenT (h : Ex T Δ te (.tuple es)) : Ex T Δ (tCB (rLenU K) (tCons te tNil)) (d (es.length : Int)) := .of fun _ _ s => ev_lenT (h.atX s)
theorem exN_listOf {_ : Dt α} {xs : List α} (h : Ex T Δ te (d xs)) : ExN T Δ (tCB (rListU K) (tCons te tNil)) (d xs) := .of fun _ _ s => ev_listOfN (h.at s)
theorem ex_keys {_ : Dt ν} {D : Dc ν} (h : Ex T Δ te (d D)) : Ex T Δ (tCB (rListU K) (tCons te tNil)) (d D.keys) := .of fun _ _ s => ev_dKeys (h.at s)
theorem ex_all {bs : List Bool} (h : Ex T Δ te (d bs)) : Ex T Δ (tCB (rAll K) (tCons te tNil)) (d (bs.all id)) := .of fun _ _ s => ev_all (h.at s)
theorem ex_any {bs : List Bool} (h : Ex T Δ te (d bs)) : Ex T Δ (tCB (rAny K) (tCons te tNil)) (d (bs.any id)) := .of fun _ _ s => ev_any (h.at s)
theorem ex_sumP {p : Pt} (h : Ex T Δ te (d p)) : Ex T Δ (tCB (rSumU K) (tCons te tNil)) (d (p.1 + p.2)) := .of fun _ _ s => ev_sumP (h.at s)
theorem exN_sortP {ps : List Pt} (h : Ex T Δ te (d ps)) : ExN T Δ (tSortP T K (tCons te tNil)) (d (inOrder ps)) := .of fun _ _ s => ev_sortPN (h.at s)
/-! calls -/
variable {X : XK}
theorem ex_call1 {_ : Dt α} {_ : Dt β} {f : α → β} {pre : α → Prop} {x : α} (h : Ex T Δ ta (d x)) (hp : pre x) : Ex T Δ (tCall (Pu T (R1 f pre)) [] X (tCons ta tNil)) (d (f x)) := .of fun _ _ s => ev_call1 (h.at s) hp
theorem ex_call2 {_ : Dt α} {_ : Dt β} {_ : Dt γ} {f : α → β → γ} {pre : α → β → Prop} {x : α} {y : β} (h : Ex T Δ ta (d x)) (h' : Ex T Δ tb (d y)) (hp : pre x y) : Ex T Δ (tCall (Pu T (R2' f pre)) [] X (tCons ta (tCons tb tNil))) (d (f x y)) := .of fun _ _ s => ev_call2 (h.at s) (h'.at s) hp
theorem ex_call3 {_ : Dt α} {_ : Dt β} {_ : Dt γ} {_ : Dt ν} {f : α → β → γ → ν} {pre : α → β → γ → Prop} {x : α} {y : β} {z : γ} (h : Ex T Δ ta (d x)) (h' : Ex T Δ tb (d y)) (h'' : Ex T Δ tc (d z)) (hp : pre x y z) : Ex T Δ (tCall (Pu T (R3 f pre)) [] X (tCons ta (tCons tb (tCons tc tNil)))) (d (f x y z)) := .of fun _ _ s => ev_call3 (h.at s) (h'.at s) (h''.at s) hp
theorem exN_call1 {_ : Dt α} {_ : Dt β} {f : α → β} {pre : α → Prop} {x : α} (h : Ex T Δ ta (d x)) (hp : pre x) : ExN T Δ (tCall (PuN T (R1 f pre)) [] X (tCons ta tNil)) (d (f x)) := .of fun _ _ s => ev_call1N (h.at s) hp
/-! the script -/
theorem ex_cellAt {_ : Dt β} {f : List Int → Int → β} {pre : List Int → Int → Prop} {ns : List Int} {i : Nat} {k : Int} (h : Δ[i]? = some (.sc K ns)) (hb : Ex T Δ tb (d k)) (hp : pre ns k) : Ex T Δ (tCall (PuC2 T K f pre) [] X (tCons (tVar i) (tCons tb tNil))) (d (f ns k)) := .of fun σ F s => by
  obtain ⟨v, h1, h2⟩ := s.sc i K ns h
  exact ev_callC2 h1 h2 (hb.at s) hp
theorem ex_callC {_ : Dt β} {f : List Int → β} {ns : List Int} {i : Nat} (h : Δ[i]? = some (.sc K ns)) : Ex T Δ (tCall (PuC1 T K f) [] X (tCons (tVar i) tNil)) (d (f ns)) := .of fun σ F s => by
  obtain ⟨v, h1, h2⟩ := s.sc i K ns h
  exact ev_callC1 h1 h2
/-! what is walked -/
theorem ei_list' {_ : Dt α} {xs : List α} (h : Ex T Δ te (d xs)) : Ei T Δ (iAny K te) (xs.map d) := fun _ _ s => ei_any (h.at s)
theorem ei_tup' (h : Ex T Δ te (.tuple es)) : Ei T Δ (iAny K te) es := fun _ _ s => ei_anyT (h.atX s)
theorem ei_str' {x : Str} (h : Ex T Δ te (d x)) : Ei T Δ (iAny K te) ((signs x).map d) := fun _ _ s => ei_anyS (h.at s)
theorem ei_range1' {n : Int} (h : Ex T Δ te (d n)) (hb : n ≤ 1000000 ∧ 0 ≤ n) : Ei T Δ (iRng1 (tCons te tNil)) ((rangeI 0 n.toNat).map d) := fun _ _ s => ei_range1 (h.at s) hb.1 hb.2
theorem ei_range2' {lo n : Int} (h : Ex T Δ ta (d lo)) (h' : Ex T Δ tb (d n)) (hb : (-1000000 ≤ lo ∧ lo ≤ 1000000) ∧ (-1000000 ≤ n ∧ n ≤ 1000000)) : Ei T Δ (iRng2 (tCons ta (tCons tb tNil))) ((rangeI lo (n - lo).toNat).map d) := fun _ _ s => ei_range2 (h.at s) (h'.at s) hb.1 hb.2
theorem ei_enumL' {_ : Dt α} {xs : List α} (h : Ex T Δ te (d xs)) : Ei T Δ (iEnumU K (tCons te tNil)) ((enumI xs).map d) := fun _ _ s => ei_enumL (h.at s)
theorem ei_enumS' {x : Str} (h : Ex T Δ te (d x)) : Ei T Δ (iEnumU K (tCons te tNil)) ((enumI (signs x)).map d) := fun _ _ s => ei_enumS (h.at s)
/-! targets -/
theorem bd_name {i : Nat} : Bd (gName i) e [(i, e)] := fun F v r => ⟨[v], .one r, fun H σ Q s q => q⟩
theorem bds_nil : BdS gNil [] [] := fun F us r => by
  cases r
  exact ⟨[], .nil, fun H σ Q s q => ⟨rfl, q⟩⟩
theorem sets_app : ∀ {is js : List Nat} {vs ws : List V} {σ : St}, is.length = vs.length → sets σ (is ++ js) (vs ++ ws) = sets (sets σ is vs) js ws
  | [], _, [], _, _, _ => rfl
  | i :: is, js, v :: vs, ws, σ, h => sets_app (is := is) (by simpa using h)
theorem bds_cons (h : Bd g e bs) (hr : BdS gs es bs') : BdS (gCons g gs) (e :: es) (bs ++ bs') := fun F us r => by
  cases r with
  | cons a r =>
    obtain ⟨ws, h1, h2⟩ := h F _ a
    obtain ⟨ws', h3, h4⟩ := hr F _ r
    refine ⟨ws ++ ws', by rw [List.map_append]; exact h1.app h3, fun H σ Q s q => ⟨_, _, rfl, h2 H σ _ s (h4 H _ Q s ?_)⟩⟩
    rw [List.map_append, sets_app (by have := h1.length; simpa using this.symm)] at q
    exact q
theorem bd_tup {n : Nat} (h : BdS gs es bs) (hn : es.length = n := by rfl) : Bd (gTup K n gs) (.tuple es) bs := fun F v r => by
  cases r with
  | tup a r =>
    obtain ⟨ws, h1, h2⟩ := h F _ r
    exact ⟨ws, h1, fun H σ Q s q => ⟨_, _, rfl, SqT.of (s _ _ a).1, by rw [r.length]; exact hn, h2 H σ Q s q⟩⟩
theorem Bd.evG {v : V} {vs : List Nat} (h : Bd g e bs) (r : Rv F v e) (hv : (bs.map (·.1)).all (fun i => vs.contains i) = true) (s : Sh F σ Δ) : ∃ σ', EvG g v σ F σ' ∧ wipe σ' vs = wipe σ vs ∧ Sh F σ' (setsG Δ bs) := by
  obtain ⟨ws, h1, h2⟩ := h F v r
  refine ⟨_, fun H su Q q => h2 H σ Q su q, wipe_sets fun i hi => ?_, s.sets h1⟩
  have := List.all_eq_true.mp hv i hi
  simpa using this
/-! comprehensions -/
theorem exN_lc {_ : Dt α} {_ : Dt β} {xs : List α} {f : α → β} {p : α → Bool} {vs : List Nat} {bs : α → List (Nat × PyData)} (h : Ei T Δ wi (xs.map d)) (hg : ∀ x ∈ xs, Bd g (d x) (bs x)) (hv : ∀ x ∈ xs, ((bs x).map (·.1)).all (fun i => vs.contains i) = true)
    (ht : ∀ x ∈ xs, Et T (setsG (wipeS Δ vs) (bs x)) tt (p x)) (he : ∀ x ∈ xs, p x = true → Ex T (setsG (wipeS Δ vs) (bs x)) te (d (f x))) (hz : xs.length ≤ 100000) : ExN T Δ (tLc wi g tt te vs) (d ((xs.filter p).map f)) :=
  .of fun σ F s => ev_lcN (h σ F s) hz fun F1 x v l hx r => by
    obtain ⟨σ', h1, h2, h3⟩ := (hg x hx).evG (vs := vs) (σ := wipe σ vs) r (hv x hx) ((s.mono l).wipe vs)
    exact ⟨σ', h1, by rw [h2, wipe_wipe], ht x hx σ' F1 h3, fun hp => (he x hx hp).at h3⟩
theorem exN_lc1 {_ : Dt α} {_ : Dt β} {xs : List α} {f : α → β} {vs : List Nat} {bs : α → List (Nat × PyData)} (h : Ei T Δ wi (xs.map d)) (hg : ∀ x ∈ xs, Bd g (d x) (bs x)) (hv : ∀ x ∈ xs, ((bs x).map (·.1)).all (fun i => vs.contains i) = true)
    (he : ∀ x ∈ xs, Ex T (setsG (wipeS Δ vs) (bs x)) te (d (f x))) (hz : xs.length ≤ 100000) : ExN T Δ (tLc wi g tYes te vs) (d (xs.map f)) := by
  have e0 : (xs.filter fun _ => true) = xs := List.filter_eq_self.mpr fun _ _ => rfl
  have z := exN_lc (p := fun _ => true) h hg hv (fun x _ => et_yes) (fun x hx _ => he x hx) hz
  rw [e0] at z
  exact z
theorem exN_lc2 {_ : Dt α} {_ : Dt β} {_ : Dt γ} {wi1 : TI} {g1 : TG} {tt1 : TT} {xs : List α} {ys : α → List β} {p : α → Bool} {p1 : α → β → Bool} {f : α → β → γ} {m : Nat} {vs vs1 : List Nat} {bs : α → List (Nat × PyData)} {bs1 : α → β → List (Nat × PyData)}
    (h : Ei T Δ wi (xs.map d)) (hg : ∀ x ∈ xs, Bd g (d x) (bs x)) (hv : ∀ x ∈ xs, ((bs x).map (·.1)).all (fun i => vs.contains i) = true) (ht : ∀ x ∈ xs, Et T (setsG (wipeS Δ vs) (bs x)) tt (p x))
    (hi : ∀ x ∈ xs, p x = true → Ei T (setsG (wipeS Δ vs) (bs x)) wi1 ((ys x).map d)) (hg1 : ∀ x ∈ xs, p x = true → ∀ y ∈ ys x, Bd g1 (d y) (bs1 x y)) (hv1 : ∀ x ∈ xs, p x = true → ∀ y ∈ ys x, ((bs1 x y).map (·.1)).all (fun i => vs1.contains i) = true)
    (ht1 : ∀ x ∈ xs, p x = true → ∀ y ∈ ys x, Et T (setsG (wipeS (setsG (wipeS Δ vs) (bs x)) vs1) (bs1 x y)) tt1 (p1 x y))
    (he : ∀ x ∈ xs, p x = true → ∀ y ∈ ys x, p1 x y = true → Ex T (setsG (wipeS (setsG (wipeS Δ vs) (bs x)) vs1) (bs1 x y)) te (d (f x y))) (hm : ∀ x ∈ xs, (ys x).length ≤ m) (hz : xs.length * m ≤ 100000) :
    ExN T Δ (tLc2 wi g tt wi1 g1 tt1 te vs vs1) (d ((xs.filter p).flatMap fun x => ((ys x).filter (p1 x)).map (f x))) :=
  .of fun σ F s => ev_lc2N (m := m) (h σ F s) hm hz fun F1 x v l hx r => by
    obtain ⟨σ', h1, h2, h3⟩ := (hg x hx).evG (vs := vs) (σ := wipe σ vs) r (hv x hx) ((s.mono l).wipe vs)
    refine ⟨σ', h1, by rw [h2, wipe_wipe], ht x hx σ' F1 h3, fun hp => ⟨hi x hx hp σ' F1 h3, fun F2 y u l2 hy r2 => ?_⟩⟩
    obtain ⟨σ2, k1, k2, k3⟩ := (hg1 x hx hp y hy).evG (vs := vs1) (σ := wipe σ' vs1) r2 (hv1 x hx hp y hy) ((h3.mono l2).wipe vs1)
    exact ⟨σ2, k1, by rw [k2, wipe_wipe], ht1 x hx hp y hy σ2 F2 k3, fun hq => (he x hx hp y hy hq).at k3⟩
end
end Tf

/-! Statements over slots as data: where they lead. -/
namespace Tf
open PySem PySem.Spec PyProof.Rows L2 Dt
/-! ### data that no write reaches -/
mutual
def imm : PyData → Bool
  | .none => true
  | .bool _ => true
  | .int _ => true
  | .str _ => true
  | .tuple es => immAll es
  | _ => false
def immAll : List PyData → Bool
  | [] => true
  | e :: es => imm e && immAll es
end
/-- F' knows the tuples of G -/
def TupIn (G F' : Hp) : Prop := ∀ a us, G a = some (.tup us) → F' a = some (.tup us)
mutual
theorem Rv.imm {G F' : Hp} (h : TupIn G F') : ∀ {e : PyData} {v : V}, Tf.imm e = true → Rv G v e → Rv F' v e
  | .none, _, _, r => by cases r; exact .non
  | .bool _, _, _, r => by cases r; exact .bl _
  | .int _, _, _, r => by cases r; exact .int _
  | .str _, _, _, r => by cases r; exact .str _
  | .tuple es, _, c, r => by
    cases r with
    | tup a r => exact .tup (h _ _ a) (RvL.imm h (by simpa only [Tf.imm] using c) r)
  | .list _, _, c, _ => by simp [Tf.imm] at c
  | .dict _, _, c, _ => by simp [Tf.imm] at c
theorem RvL.imm {G F' : Hp} (h : TupIn G F') : ∀ {es : List PyData} {us : List V}, immAll es = true → RvL G us es → RvL F' us es
  | [], _, _, r => by cases r; exact .nil
  | e :: es, _, c, r => by
    simp only [immAll, Bool.and_eq_true] at c
    cases r with
    | cons a r => exact .cons (Rv.imm h c.1 a) (RvL.imm h c.2 r)
end
class Imm (α : Type) [Dt α] : Prop where
  h : ∀ x : α, imm (d x) = true
instance : Imm Int := ⟨fun _ => rfl⟩
instance : Imm Bool := ⟨fun _ => rfl⟩
instance : Imm Str := ⟨fun _ => rfl⟩
instance : Imm Unit := ⟨fun _ => rfl⟩
instance {α β : Type} [Dt α] [Dt β] [Imm α] [Imm β] : Imm (α × β) := ⟨fun x => by
  show imm (.tuple [d x.1, d x.2]) = true
  simp only [imm, immAll, Imm.h, Bool.and_self]⟩
instance {α : Type} [Dt α] : Dt (Option α) := ⟨fun o => match o with
  | none => .none
  | some x => d x⟩
instance {α : Type} [Dt α] [Imm α] : Imm (Option α) := ⟨fun o => by
  cases o with
  | none => rfl
  | some x => exact Imm.h x⟩
theorem immAll_map {α : Type} [Dt α] [Imm α] : ∀ xs : List α, immAll (xs.map d) = true
  | [] => rfl
  | x :: xs => by simp only [List.map_cons, immAll, Imm.h, immAll_map xs, Bool.and_self]
/-! ### a state -/
structure Ok (T : List (Addr × Str)) (F0 H0 F H : Hp) (σ : St) (Γ : List Sl) : Prop where
  st : Step T F0 F H0 H
  len : σ.length = Γ.length
  sh : ∀ (i : Nat) (e : PyData), Γ[i]? = some (.sh e) → ∃ v, σ[i]? = some (some v) ∧ Rv F v e
  ow : ∀ (i : Nat) (p : Addr) (e : PyData), Γ[i]? = some (.ow p e) → σ[i]? = some (some (.ref p)) ∧ F p = none ∧ H0 p = none ∧ OwnX F H p e
  raw : ∀ (i : Nat) (v : V), Γ[i]? = some (.raw v) → σ[i]? = some (some v)
  sc : ∀ (i : Nat) (K : PySem.W.Frag) (ns : List Int), Γ[i]? = some (.sc K ns) → ∃ v, σ[i]? = some (some v) ∧ Sc K F v ns
  ne : ∀ (i j : Nat) (p : Addr) (e e' : PyData), Γ[i]? = some (.ow p e) → Γ[j]? = some (.ow p e') → i = j
section
variable {T : List (Addr × Str)} {α β γ ν : Type} {F0 H0 F H F' H' G : Hp} {σ σ' : St} {Γ Γ' : List Sl} {te ta tb tk tv : TE} {tt : TT} {t u : TS} {g : TG} {K : PySem.W.Frag} {wi : TI} {E : XK} {e : PyData} {es : List PyData} {D : Ends}
theorem hid_get {i : Nat} {s : Sl} : (hid Γ)[i]? = some s ↔ ∃ r, Γ[i]? = some r ∧ hid1 r = s := by
  unfold hid
  rw [List.getElem?_map]
  cases Γ[i]? <;> simp
theorem see_get {i : Nat} {s : Sl} : (see Γ)[i]? = some s ↔ ∃ r, Γ[i]? = some r ∧ see1 r = s := by
  unfold see
  rw [List.getElem?_map]
  cases Γ[i]? <;> simp
theorem Ok.toHid (o : Ok T F0 H0 F H σ Γ) : Sh F σ (hid Γ) := ⟨by unfold hid; rw [List.length_map, o.len], fun i e q => by
  obtain ⟨r, h1, h2⟩ := hid_get.mp q
  cases r <;> simp [hid1] at h2
  subst h2
  exact o.sh i _ h1, fun i v q => by
  obtain ⟨r, h1, h2⟩ := hid_get.mp q
  cases r <;> simp [hid1] at h2
  subst h2
  exact o.raw i _ h1, fun i K ns q => by
  obtain ⟨r, h1, h2⟩ := hid_get.mp q
  cases r <;> simp [hid1] at h2
  obtain ⟨rfl, rfl⟩ := h2
  exact o.sc i _ _ h1⟩
theorem Ok.step (o : Ok T F0 H0 F H σ Γ) (s : Step T F F' H H') : Ok T F0 H0 F' H' σ Γ := by
  refine ⟨o.st.trans s, o.len, fun i e q => ?_, fun i p e q => ?_, o.raw, fun i K' ns q => ?_, o.ne⟩
  · obtain ⟨v, h1, h2⟩ := o.sh i e q
    exact ⟨v, h1, h2.mono s.ff⟩
  · obtain ⟨h1, h2, h3, h4⟩ := o.ow i p e q
    exact ⟨h1, s.new p h2 h4.wr, h3, (h4.mono s.ff).at_ fun u a n => s.ext.keep p u a n⟩
  · obtain ⟨v, h1, h2⟩ := o.sc i K' ns q
    exact ⟨v, h1, h2.mono s.ff⟩
/-- p is written here -/
def IsOw (Γ : List Sl) (p : Addr) : Prop := ∃ (i : Nat) (e : PyData), Γ[i]? = some (.ow p e)
/-- the frame in which what is written here may be read -/
noncomputable def seeF (Γ : List Sl) (F H : Hp) : Hp := fun a => @ite _ (IsOw Γ a) (Classical.propDecidable _) (H a) (F a)
noncomputable def hideF (Γ : List Sl) (G : Hp) : Hp := fun a => @ite _ (IsOw Γ a) (Classical.propDecidable _) none (G a)
theorem seeF_ow {a : Addr} (h : IsOw Γ a) : seeF Γ F H a = H a := by unfold seeF; exact if_pos h
theorem seeF_no {a : Addr} (h : ¬ IsOw Γ a) : seeF Γ F H a = F a := by unfold seeF; exact if_neg h
theorem hideF_ow {a : Addr} (h : IsOw Γ a) : hideF Γ G a = none := by unfold hideF; exact if_pos h
theorem hideF_no {a : Addr} (h : ¬ IsOw Γ a) : hideF Γ G a = G a := by unfold hideF; exact if_neg h
theorem Ok.not_ow (o : Ok T F0 H0 F H σ Γ) {a : Addr} {x : HO} (h : F a = some x) : ¬ IsOw Γ a := fun ⟨i, e, q⟩ => by
  rw [(o.ow i a e q).2.1] at h
  cases h
theorem Ok.seeSame (o : Ok T F0 H0 F H σ Γ) : Same F (seeF Γ F H) := fun a x h => by
  rw [seeF_no (o.not_ow h)]
  exact h
theorem Ok.seeSub (o : Ok T F0 H0 F H σ Γ) : Sub (seeF Γ F H) H := fun a x h => by
  by_cases w : IsOw Γ a
  · rw [seeF_ow w] at h
    obtain ⟨i, e, q⟩ := w
    obtain ⟨u, h1, h2, _⟩ := (o.ow i a e q).2.2.2.obj
    rw [h] at h1
    cases h1
    exact ⟨h, h2⟩
  · rw [seeF_no w] at h
    exact o.st.sub a x h
theorem Ok.toSee (o : Ok T F0 H0 F H σ Γ) : Sh (seeF Γ F H) σ (see Γ) := ⟨by unfold see; rw [List.length_map, o.len], fun i e q => by
  obtain ⟨r, h1, h2⟩ := see_get.mp q
  cases r with
  | no => simp [see1] at h2
  | raw v => simp [see1] at h2
  | sc K ns => simp [see1] at h2
  | sh e' =>
    simp [see1] at h2
    subst h2
    obtain ⟨v, h3, h4⟩ := o.sh i _ h1
    exact ⟨v, h3, h4.mono o.seeSame⟩
  | ow p e' =>
    simp [see1] at h2
    subst h2
    obtain ⟨h3, h4, h5, h6⟩ := o.ow i p _ h1
    exact ⟨_, h3, h6.rv o.seeSame (seeF_ow ⟨i, _, h1⟩)⟩, fun i v q => by
  obtain ⟨r, h1, h2⟩ := see_get.mp q
  cases r <;> simp [see1] at h2
  subst h2
  exact o.raw i _ h1, fun i K ns q => by
  obtain ⟨r, h1, h2⟩ := see_get.mp q
  cases r <;> simp [see1] at h2
  obtain ⟨rfl, rfl⟩ := h2
  obtain ⟨v, h3, h4⟩ := o.sc i _ _ h1
  exact ⟨v, h3, h4.mono o.seeSame⟩⟩
/-- back from the seeing frame -/
theorem Ok.unsee (o : Ok T F0 H0 F H σ Γ) (s : Step T (seeF Γ F H) G H H') : Step T F (hideF Γ G) H H' := by
  refine ⟨fun a x h => ?_, fun a x h => ?_, s.ext, fun a h1 h2 => ?_, s.tab⟩
  · have n := o.not_ow h
    rw [hideF_no n]
    exact s.ff a x (by rw [seeF_no n]; exact h)
  · by_cases w : IsOw Γ a
    · rw [hideF_ow w] at h
      cases h
    · rw [hideF_no w] at h
      exact s.sub a x h
  · by_cases w : IsOw Γ a
    · exact hideF_ow w
    · rw [hideF_no w]
      exact s.new a (by rw [seeF_no w]; exact h1) h2
theorem Ok.tupIn (o : Ok T F0 H0 F H σ Γ) (s : Step T (seeF Γ F H) G H H') : TupIn G (hideF Γ G) := fun a us h => by
  have n : ¬ IsOw Γ a := fun ⟨i, e, q⟩ => by
    obtain ⟨u, h1, h2, h3, _⟩ := (o.ow i a e q).2.2.2.obj
    have := s.ff a u (by rw [seeF_ow ⟨i, e, q⟩]; exact h1)
    rw [h] at this
    cases this
    exact h3 us rfl
  rw [hideF_no n]
  exact h
/-- te gives e while the slots stay; n: what is given is new -/
def Es (T : List (Addr × Str)) (Γ : List Sl) (te : TE) (n : Bool) (e : PyData) : Prop := ∀ (F0 H0 F H : Hp) (σ : St), Ok T F0 H0 F H σ Γ → ∀ Q : VK, (∀ v F' H', Same F F' → Ok T F0 H0 F' H' σ Γ → Rv F' v e → (n = true → ∀ p, v = .ref p → H0 p = none) → Q v H') → te σ H Q
theorem es_hid (h : Ex T (hid Γ) te e) : Es T Γ te false e := fun F0 H0 F H σ o Q q => h σ F o.toHid H o.st.sub o.st.tab Q fun v F' H' s r => q v F' H' s.ff (o.step s) r fun z => nomatch z
theorem es_hidN (h : ExN T (hid Γ) te e) : Es T Γ te true e := fun F0 H0 F H σ o Q q => h σ F o.toHid H o.st.sub o.st.tab Q fun v F' H' s r n => q v F' H' s.ff (o.step s) r fun _ p z => o.st.ext.live p (n p z)
theorem es_see (h : Ex T (see Γ) te e) (i : imm e = true) : Es T Γ te false e := fun F0 H0 F H σ o Q q => h σ _ o.toSee H o.seeSub o.st.tab Q fun v G H' s r => q v (hideF Γ G) H' (o.unsee s).ff (o.step (o.unsee s)) (r.imm (o.tupIn s) i) fun z => nomatch z
theorem es_seeN {es : List PyData} (h : ExN T (see Γ) te (.list es)) (i : immAll es = true) : Es T Γ te true (.list es) := fun F0 H0 F H σ o Q q => h σ _ o.toSee H o.seeSub o.st.tab Q fun v G H' s r n => by
  refine q v (hideF Γ G) H' (o.unsee s).ff (o.step (o.unsee s)) ?_ fun _ p z => o.st.ext.live p (n p z)
  cases r with
  | @lst p us _ a r =>
    have nw : ¬ IsOw Γ p := fun ⟨i, e, q⟩ => (o.ow i p e q).2.2.2.wr.some (n p rfl)
    exact .lst (by rw [hideF_no nw]; exact a) (r.imm (o.tupIn s) i)
theorem Es.old {n : Bool} (h : Es T Γ te n e) : Es T Γ te false e := fun F0 H0 F H σ o Q q => h F0 H0 F H σ o Q fun v F' H' l o' r _ => q v F' H' l o' r fun z => nomatch z
theorem es_eq {n : Bool} {e' : PyData} (h : Es T Γ te n e) (q : e = e') : Es T Γ te n e' := q ▸ h
theorem Ok.test {b : Bool} (o : Ok T F0 H0 F H σ Γ) (h : Et T (see Γ) tt b) : ∀ Q : Bool → Hp → Prop, (∀ H', Step T F F H H' → Q b H') → tt σ H Q := fun Q q => h σ _ o.toSee H o.seeSub o.st.tab Q fun H' s => q H' (s.narrow o.seeSame)
/-! ### where statements lead -/
inductive Out
  | nx (Γ : List Sl)
  | bk (Γ : List Sl)
  | ct (Γ : List Sl)
  | rt (n : Bool) (e : PyData) (Γ : List Sl)
  | ex (c : Str)
/-- the ends take what R says -/
structure Fin (T : List (Addr × Str)) (K : PySem.W.Frag) (E : XK) (F0 H0 F : Hp) (D : Ends) (R : Out → Prop) : Prop where
  nx : ∀ Γ σ F' H', R (.nx Γ) → Same F F' → Ok T F0 H0 F' H' σ Γ → D.nx σ H'
  bk : ∀ Γ σ F' H', R (.bk Γ) → Same F F' → Ok T F0 H0 F' H' σ Γ → D.bk σ H'
  ct : ∀ Γ σ F' H', R (.ct Γ) → Same F F' → Ok T F0 H0 F' H' σ Γ → D.ct σ H'
  rt : ∀ n e Γ σ F' H' v, R (.rt n e Γ) → Same F F' → Ok T F0 H0 F' H' σ Γ → Rv F' v e → (n = true → ∀ p, v = .ref p → H0 p = none) → D.rt v H'
  ex : ∀ c F' H', R (.ex c) → Same F F' → Step T F0 F' H0 H' → E (.ref (He.ga K c)) none H'
theorem Fin.shift {R : Out → Prop} (f : Fin T K E F0 H0 F D R) (l : Same F F') : Fin T K E F0 H0 F' D R := ⟨fun Γ σ G H' r m o => f.nx Γ σ G H' r (l.trans m) o, fun Γ σ G H' r m o => f.bk Γ σ G H' r (l.trans m) o, fun Γ σ G H' r m o => f.ct Γ σ G H' r (l.trans m) o,
  fun n e Γ σ G H' v r m o rv z => f.rt n e Γ σ G H' v r (l.trans m) o rv z, fun c G H' r m st => f.ex c G H' r (l.trans m) st⟩
/-- t leads from Γ to R -/
def Run (T : List (Addr × Str)) (K : PySem.W.Frag) (E : XK) (Γ : List Sl) (t : TS) (R : Out → Prop) : Prop := ∀ (F0 H0 F H : Hp) (σ : St) (D : Ends), Ok T F0 H0 F H σ Γ → Fin T K E F0 H0 F D R → t D σ H
variable {R R' : Out → Prop}
theorem Run.mono (h : Run T K E Γ t R) (i : ∀ o, R o → R' o) : Run T K E Γ t R' := fun F0 H0 F H σ D o f => h F0 H0 F H σ D o ⟨fun Γ σ G H' r => f.nx Γ σ G H' (i _ r), fun Γ σ G H' r => f.bk Γ σ G H' (i _ r), fun Γ σ G H' r => f.ct Γ σ G H' (i _ r),
  fun n e Γ σ G H' v r => f.rt n e Γ σ G H' v (i _ r), fun c F' H' r => f.ex c F' H' (i _ r)⟩
/-- first t, then u -/
def sq (T : List (Addr × Str)) (K : PySem.W.Frag) (E : XK) (u : TS) (R : Out → Prop) : Out → Prop
  | .nx Γ => Run T K E Γ u R
  | .bk Γ => R (.bk Γ)
  | .ct Γ => R (.ct Γ)
  | .rt n e Γ => R (.rt n e Γ)
  | .ex c => R (.ex c)
theorem r_seq (h : Run T K E Γ t (sq T K E u R)) : Run T K E Γ (tSeq t u) R := fun F0 H0 F H σ D o f => h F0 H0 F H σ _ o ⟨fun Γ' σ' F' H' r l o' => r F0 H0 F' H' σ' D o' (f.shift l), f.bk, f.ct, f.rt, f.ex⟩
theorem r_next (h : R (.nx Γ)) : Run T K E Γ tNext R := fun F0 H0 F H σ D o f => f.nx Γ σ F H h (Same.refl _) o
theorem r_cont (h : R (.ct Γ)) : Run T K E Γ tCont R := fun F0 H0 F H σ D o f => f.ct Γ σ F H h (Same.refl _) o
theorem r_break (h : R (.bk Γ)) : Run T K E Γ tBreak R := fun F0 H0 F H σ D o f => f.bk Γ σ F H h (Same.refl _) o
theorem Ok.lt {i : Nat} {s : Sl} (o : Ok T F0 H0 F H σ Γ) (h : Γ[i]? = some s) : i < σ.length := by
  rw [o.len]
  exact (List.getElem?_eq_some_iff.mp h).1
theorem Ok.set {i : Nat} {v : V} (o : Ok T F0 H0 F H σ Γ) (r : Rv F v e) : Ok T F0 H0 F H (σ.set i (some v)) (Γ.set i (.sh e)) := by
  refine ⟨o.st, by simp [o.len], fun j e' q => ?_, fun j p e' q => ?_, fun j w q => ?_, fun j K' ns q => ?_, fun j k p e1 e2 q1 q2 => ?_⟩
  · rcases get_set q with ⟨rfl, hl, z⟩ | ⟨n, z⟩
    · cases z
      exact ⟨v, by rw [List.getElem?_set_self (by rw [o.len]; exact hl)], r⟩
    · rw [List.getElem?_set_ne n]
      exact o.sh j e' z
  · rcases get_set q with ⟨rfl, hl, z⟩ | ⟨n, z⟩
    · cases z
    · rw [List.getElem?_set_ne n]
      exact o.ow j p e' z
  · rcases get_set q with ⟨rfl, hl, z⟩ | ⟨n, z⟩
    · cases z
    · rw [List.getElem?_set_ne n]
      exact o.raw j w z
  · rcases get_set q with ⟨rfl, hl, z⟩ | ⟨n, z⟩
    · cases z
    · rw [List.getElem?_set_ne n]
      exact o.sc j K' ns z
  · rcases get_set q1 with ⟨rfl, hl, z1⟩ | ⟨n1, z1⟩
    · cases z1
    · rcases get_set q2 with ⟨rfl, hl, z2⟩ | ⟨n2, z2⟩
      · cases z2
      · exact o.ne j k p e1 e2 z1 z2
theorem Ok.forget {i : Nat} {x : Option V} (o : Ok T F0 H0 F H σ Γ) : Ok T F0 H0 F H (σ.set i x) (Γ.set i .no) := by
  refine ⟨o.st, by simp [o.len], fun j e' q => ?_, fun j p e' q => ?_, fun j w q => ?_, fun j K' ns q => ?_, fun j k p e1 e2 q1 q2 => ?_⟩
  · rcases get_set q with ⟨rfl, hl, z⟩ | ⟨n, z⟩
    · cases z
    · rw [List.getElem?_set_ne n]
      exact o.sh j e' z
  · rcases get_set q with ⟨rfl, hl, z⟩ | ⟨n, z⟩
    · cases z
    · rw [List.getElem?_set_ne n]
      exact o.ow j p e' z
  · rcases get_set q with ⟨rfl, hl, z⟩ | ⟨n, z⟩
    · cases z
    · rw [List.getElem?_set_ne n]
      exact o.raw j w z
  · rcases get_set q with ⟨rfl, hl, z⟩ | ⟨n, z⟩
    · cases z
    · rw [List.getElem?_set_ne n]
      exact o.sc j K' ns z
  · rcases get_set q1 with ⟨rfl, hl, z1⟩ | ⟨n1, z1⟩
    · cases z1
    · rcases get_set q2 with ⟨rfl, hl, z2⟩ | ⟨n2, z2⟩
      · cases z2
      · exact o.ne j k p e1 e2 z1 z2
/-- slots are known less -/
def Less (Γ Γ' : List Sl) : Prop := Γ.length = Γ'.length ∧ ∀ (i : Nat) (s : Sl), Γ'[i]? = some s → s = Sl.no ∨ Γ[i]? = some s
theorem Ok.less (o : Ok T F0 H0 F H σ Γ) (l : Less Γ Γ') : Ok T F0 H0 F H σ Γ' := by
  have up : ∀ (i : Nat) (s : Sl), s ≠ Sl.no → Γ'[i]? = some s → Γ[i]? = some s := fun i s n h => (l.2 i s h).resolve_left n
  exact ⟨o.st, o.len.trans l.1, fun i e q => o.sh i e (up i _ (by simp) q), fun i p e q => o.ow i p e (up i _ (by simp) q), fun i v q => o.raw i v (up i _ (by simp) q), fun i K ns q => o.sc i K ns (up i _ (by simp) q), fun i j p e e' q1 q2 => o.ne i j p e e' (up i _ (by simp) q1) (up j _ (by simp) q2)⟩
theorem r_less (l : Less Γ Γ') (h : Run T K E Γ' t R) : Run T K E Γ t R := fun F0 H0 F H σ D o f => h F0 H0 F H σ D (o.less l) f
/-- what was written here is a part of the frame from now on -/
theorem Ok.share {i : Nat} {p : Addr} (o : Ok T F0 H0 F H σ Γ) (h : Γ[i]? = some (.ow p e)) : ∃ F', Same F F' ∧ Ok T F0 H0 F' H σ (Γ.set i (.sh e)) := by
  obtain ⟨h1, h2, h3, h4⟩ := o.ow i p e h
  obtain ⟨u, a, n1, n2, n3⟩ := h4.obj
  have ff : Same F (upd F p u) := same_upd h2
  have r : Rv (upd F p u) (.ref p) e := h4.rv ff (by rw [upd_same, a])
  have hl := (List.getElem?_eq_some_iff.mp h).1
  refine ⟨upd F p u, ff, ⟨⟨o.st.ff.trans ff, sub_upd o.st.sub a n1, o.st.ext, fun b z1 z2 => ?_, o.st.tab⟩, by simp [o.len], fun j e' q => ?_, fun j q e' z => ?_, fun j w q => ?_, fun j K' ns q => ?_, fun j k q e1 e2 q1 q2 => ?_⟩⟩
  · have nb : b ≠ p := fun z => z2.some (by rw [z]; exact h3)
    rw [upd_ne nb]
    exact o.st.new b z1 z2
  · rcases get_set q with ⟨rfl, hl, z⟩ | ⟨n, z⟩
    · cases z
      exact ⟨_, h1, r⟩
    · obtain ⟨v, z1, z2⟩ := o.sh j e' z
      exact ⟨v, z1, z2.mono ff⟩
  · rcases get_set z with ⟨rfl, hl, z⟩ | ⟨n, z⟩
    · cases z
    · obtain ⟨k1, k2, k3, k4⟩ := o.ow j q e' z
      have nq : q ≠ p := fun y => n (o.ne i j p e e' h (by rw [← y]; exact z))
      exact ⟨k1, by rw [upd_ne nq]; exact k2, k3, k4.mono ff⟩
  · rcases get_set q with ⟨rfl, hl, z⟩ | ⟨n, z⟩
    · cases z
    · exact o.raw j w z
  · rcases get_set q with ⟨rfl, hl, z⟩ | ⟨n, z⟩
    · cases z
    · obtain ⟨v, z1, z2⟩ := o.sc j K' ns z
      exact ⟨v, z1, z2.mono (by first | exact Same.refl _ | exact ff)⟩
  · rcases get_set q1 with ⟨rfl, hl, z1⟩ | ⟨n1, z1⟩
    · cases z1
    · rcases get_set q2 with ⟨rfl, hl, z2⟩ | ⟨n2, z2⟩
      · cases z2
      · exact o.ne j k q e1 e2 z1 z2
theorem r_share {p : Addr} (i : Nat) (h : Γ[i]? = some (.ow p e)) (k : Run T K E (Γ.set i (.sh e)) t R) : Run T K E Γ t R := fun F0 H0 F H σ D o f => by
  obtain ⟨F', l, o'⟩ := o.share h
  exact k F0 H0 F' H σ D o' (f.shift l)
theorem r_asg {i : Nat} {n : Bool} (h : Es T Γ te n e) (k : R (.nx (Γ.set i (.sh e)))) : Run T K E Γ (tAsg te (gName i)) R := fun F0 H0 F H σ D o f => h F0 H0 F H σ o _ fun v F' H' l o' r _ => f.nx _ _ F' H' k l (o'.set r)
theorem Ok.sets : ∀ {bs : List (Nat × PyData)} {σ : St} {Γ : List Sl} {vs : List V}, Ok T F0 H0 F H σ Γ → RvL F vs (bs.map (·.2)) → Ok T F0 H0 F H (Tf.sets σ (bs.map (·.1)) vs) (setsG Γ bs)
  | [], _, _, _, o, r => by
    cases r
    exact o
  | b :: bs, _, _, _, o, r => by
    cases r with
    | @cons u us _ _ a r =>
      have z := Ok.sets (bs := bs) (o.set (i := b.1) a) r
      exact z
theorem r_asgT {n : Bool} {bs : List (Nat × PyData)} (h : Es T Γ te n e) (b : Bd g e bs) (k : R (.nx (setsG Γ bs))) : Run T K E Γ (tAsg te g) R := fun F0 H0 F H σ D o f => h F0 H0 F H σ o _ fun v F' H' l o' r _ => by
  obtain ⟨ws, h1, h2⟩ := b F' v r
  exact h2 H' σ D.nx o'.st.sub (f.nx _ _ F' H' k l (o'.sets h1))
theorem r_par {i j : Nat} {n m : Bool} {e1 e2 : PyData} (h1 : Es T Γ ta n e1) (h2 : Es T Γ tb m e2) (k : R (.nx ((Γ.set i (.sh e1)).set j (.sh e2)))) : Run T K E Γ (tPar i j (tCons ta (tCons tb tNil))) R := fun F0 H0 F H σ D o f =>
  h1 F0 H0 F H σ o _ fun v F1 H1 l1 o1 r1 _ => h2 F0 H0 F1 H1 σ o1 _ fun w F2 H2 l2 o2 r2 _ => ⟨v, w, rfl, f.nx _ _ F2 H2 k (l1.trans l2) ((o2.set (r1.mono l2)).set r2)⟩
theorem r_if {b : Bool} (h : Et T (see Γ) tt b) (h1 : b = true → Run T K E Γ t R) (h2 : b = false → Run T K E Γ u R) : Run T K E Γ (tIfS tt t u) R := fun F0 H0 F H σ D o f => o.test h _ fun H' s => by
  cases b with
  | true => exact h1 rfl F0 H0 F H' σ D (o.step s) f
  | false => exact h2 rfl F0 H0 F H' σ D (o.step s) f
theorem r_ret {n : Bool} (h : Es T Γ te n e) (k : R (.rt n e Γ)) : Run T K E Γ (tRet te) R := fun F0 H0 F H σ D o f => h F0 H0 F H σ o _ fun v F' H' l o' r z => f.rt n e Γ σ F' H' v k l o' r z
theorem r_retN (k : R (.rt false .none Γ)) : Run T K E Γ tRetN R := fun F0 H0 F H σ D o f => f.rt false .none Γ σ F H .non k (Same.refl _) o .non fun z => nomatch z
/-- an own thing is told -/
theorem r_retO {i : Nat} {p : Addr} (h : Γ[i]? = some (.ow p e)) (k : R (.rt true e (Γ.set i (.sh e)))) : Run T K E Γ (tRet (tVar i)) R := fun F0 H0 F H σ D o f => by
  obtain ⟨h1, h2, h3, h4⟩ := o.ow i p e h
  obtain ⟨F', l, o'⟩ := o.share h
  obtain ⟨v, h5, h6⟩ := o'.sh i e (by rw [List.getElem?_set_self (List.getElem?_eq_some_iff.mp h).1])
  refine ⟨v, h5, f.rt true e _ σ F' H v k l o' h6 fun _ q z => ?_⟩
  rw [h1] at h5
  cases h5
  cases z
  exact h3
theorem r_drop {n : Bool} (h : Es T Γ te n e) (k : R (.nx Γ)) : Run T K E Γ (tDrop te) R := fun F0 H0 F H σ D o f => h F0 H0 F H σ o _ fun v F' H' l o' _ _ => f.nx _ _ F' H' k l o'
/-! ### what is written here -/
/-- the own thing at slot i changes -/
theorem Ok.mut {i : Nat} {p : Addr} {e' : PyData} {x : HO} (o : Ok T F0 H0 F H σ Γ) (h : Γ[i]? = some (.ow p e)) (w : OwnX F (upd H p x) p e') : Ok T F0 H0 F (upd H p x) σ (Γ.set i (.ow p e')) := by
  obtain ⟨h1, h2, h3, h4⟩ := o.ow i p e h
  obtain ⟨u, a, n1, n2, n3⟩ := h4.obj
  refine ⟨o.st.mut h2 h3 a n1 n3, by simp [o.len], fun j e' q => ?_, fun j q e' z => ?_, fun j w q => ?_, fun j K' ns q => ?_, fun j k q e1 e2 q1 q2 => ?_⟩
  · rcases get_set q with ⟨rfl, hl, z⟩ | ⟨n, z⟩
    · cases z
    · exact o.sh j e' z
  · rcases get_set z with ⟨rfl, hl, z⟩ | ⟨n, z⟩
    · cases z
      exact ⟨h1, h2, h3, w⟩
    · obtain ⟨k1, k2, k3, k4⟩ := o.ow j q e' z
      have nq : q ≠ p := fun y => n (o.ne i j p e e' h (by rw [← y]; exact z))
      exact ⟨k1, k2, k3, k4.at_ fun y e _ => by rw [upd_ne nq]; exact e⟩
  · rcases get_set q with ⟨rfl, hl, z⟩ | ⟨n, z⟩
    · cases z
    · exact o.raw j w z
  · rcases get_set q with ⟨rfl, hl, z⟩ | ⟨n, z⟩
    · cases z
    · obtain ⟨v, z1, z2⟩ := o.sc j K' ns z
      exact ⟨v, z1, z2.mono (by first | exact Same.refl _ | exact ff)⟩
  · rcases get_set q1 with ⟨rfl, hl, z1⟩ | ⟨n1, z1⟩
    · cases z1
      rcases get_set q2 with ⟨y, hl, z2⟩ | ⟨n2, z2⟩
      · exact y
      · exact absurd (o.ne _ k p e e2 h z2) n2
    · rcases get_set q2 with ⟨rfl, hl, z2⟩ | ⟨n2, z2⟩
      · cases z2
        exact absurd (o.ne _ j p e e1 h z1) n1
      · exact o.ne j k q e1 e2 z1 z2
/-- a thing that no slot holds is kept as an own one -/
theorem Ok.keep {i : Nat} {p : Addr} (o : Ok T F0 H0 F H σ Γ) (f : F p = none) (n0 : H0 p = none) (w : OwnX F H p e) (nw : ∀ (j : Nat) (e' : PyData), Γ[j]? ≠ some (Sl.ow p e')) : Ok T F0 H0 F H (σ.set i (some (.ref p))) (Γ.set i (.ow p e)) := by
  refine ⟨o.st, by simp [o.len], fun j e' q => ?_, fun j q e' z => ?_, fun j w q => ?_, fun j K' ns q => ?_, fun j k q e1 e2 q1 q2 => ?_⟩
  · rcases get_set q with ⟨rfl, hl, z⟩ | ⟨n, z⟩
    · cases z
    · rw [List.getElem?_set_ne n]
      exact o.sh j e' z
  · rcases get_set z with ⟨rfl, hl, z⟩ | ⟨n, z⟩
    · cases z
      exact ⟨by rw [List.getElem?_set_self (by rw [o.len]; exact hl)], f, n0, w⟩
    · obtain ⟨k1, k2, k3, k4⟩ := o.ow j q e' z
      exact ⟨by rw [List.getElem?_set_ne n]; exact k1, k2, k3, k4⟩
  · rcases get_set q with ⟨rfl, hl, z⟩ | ⟨n, z⟩
    · cases z
    · rw [List.getElem?_set_ne n]
      exact o.raw j w z
  · rcases get_set q with ⟨rfl, hl, z⟩ | ⟨n, z⟩
    · cases z
    · rw [List.getElem?_set_ne n]
      exact o.sc j K' ns z
  · rcases get_set q1 with ⟨rfl, hl, z1⟩ | ⟨n1, z1⟩
    · cases z1
      rcases get_set q2 with ⟨y, hl, z2⟩ | ⟨n2, z2⟩
      · exact y
      · exact absurd z2 (nw k e2)
    · rcases get_set q2 with ⟨rfl, hl, z2⟩ | ⟨n2, z2⟩
      · cases z2
        exact absurd z1 (nw j e1)
      · exact o.ne j k q e1 e2 z1 z2
theorem Ok.noOw {p : Addr} (o : Ok T F0 H0 F H σ Γ) (hp : H p = none) : ∀ (j : Nat) (e' : PyData), Γ[j]? ≠ some (Sl.ow p e') := fun j e' z => (o.ow j p e' z).2.2.2.wr.some hp
/-- what is told new, with items that no write reaches, is kept as an own list -/
theorem r_ownN {i : Nat} (h : ExN T (hid Γ) te (.list es)) (im : immAll es = true) (k : ∀ p, R (.nx (Γ.set i (.ow p (.list es))))) : Run T K E Γ (tAsg te (gName i)) R := fun F0 H0 F H σ D o f => h σ F o.toHid H o.st.sub o.st.tab _ fun v F' H' s r n => by
  cases r with
  | @lst p us _ a r =>
    have hp := n p rfl
    have fp := o.st.sub.free hp
    have s' : Step T F (erase F' p) H H' := ⟨erase_ff s.ff fp, erase_sub s.sub, s.ext, fun b z1 z2 => by
      by_cases y : b = p
      · rw [y, erase_same]
      · rw [erase_ne y]
        exact s.new b z1 z2, s.tab⟩
    have ti : TupIn F' (erase F' p) := fun b ws h => by
      have nb : b ≠ p := fun z => by
        rw [z, a] at h
        cases h
      rw [erase_ne nb]
      exact h
    exact f.nx _ _ (erase F' p) H' (k p) s'.ff ((o.step s').keep erase_same (o.st.ext.live p hp) (.lst (s.sub _ _ a).1 (r.imm ti im)) (o.noOw hp))
/-- the same, what is written here may be read -/
theorem r_ownSN {i : Nat} (h : ExN T (see Γ) te (.list es)) (im : immAll es = true) (k : ∀ p, R (.nx (Γ.set i (.ow p (.list es))))) : Run T K E Γ (tAsg te (gName i)) R := fun F0 H0 F H σ D o f => h σ _ o.toSee H o.seeSub o.st.tab _ fun v G H' s0 r0 n => by
  have s := o.unsee s0
  cases r0 with
  | @lst p us _ a r =>
    have hp := n p rfl
    have fp := o.st.sub.free hp
    have s' : Step T F (erase (hideF Γ G) p) H H' := ⟨erase_ff s.ff fp, erase_sub s.sub, s.ext, fun b z1 z2 => by
      by_cases y : b = p
      · rw [y, erase_same]
      · rw [erase_ne y]
        exact s.new b z1 z2, s.tab⟩
    have ti : TupIn G (erase (hideF Γ G) p) := fun b ws h => by
      have nb : b ≠ p := fun z => by
        rw [z, a] at h
        cases h
      rw [erase_ne nb]
      exact o.tupIn s0 b ws h
    exact f.nx _ _ (erase (hideF Γ G) p) H' (k p) s'.ff ((o.step s').keep erase_same (o.st.ext.live p hp) (.lst (s0.sub _ _ a).1 (r.imm ti im)) (o.noOw hp))
end
end Tf

/-! Own lists and dicts, loops, defs, what is raised. -/
namespace Tf
open PySem PySem.Spec PyProof.Rows L2 Dt
section
variable {T : List (Addr × Str)} {α β γ ν : Type} {F0 H0 F H F' H' G : Hp} {σ σ' : St} {Γ Γ' Δ : List Sl} {te ta tb tk tv : TE} {tr : TA} {tt c : TT} {t u tbd : TS} {g : TG} {K : PySem.W.Frag} {wi : TI} {E : XK} {e : PyData} {es : List PyData} {D : Ends} {R R' : Out → Prop} {i j : Nat} {p : Addr} {n m : Bool}
/-! ### own lists -/
theorem r_app {_ : Dt α} {xs : List α} {x : α} (h : Γ[i]? = some (Sl.ow p (d xs))) (he : Es T Γ te n (d x)) (hz : xs.length < 100000) (k : R (.nx (Γ.set i (.ow p (d (xs ++ [x])))))) : Run T K E Γ (tDrop (tBM K "list" rAppend (tVar i) (tCons te tNil))) R := fun F0 H0 F H σ D o f => by
  obtain ⟨h1, h2, h3, h4⟩ := o.ow i p _ h
  obtain ⟨_, us, a, r⟩ := h4.own h2
  refine ⟨_, h1, Or.inl ⟨rfl, us, SqL.of a⟩, he F0 H0 F H σ o _ fun v F' H' l o' rv _ => ?_⟩
  obtain ⟨g1, g2, g3, g4⟩ := o'.ow i p _ h
  obtain ⟨_, us', a', r'⟩ := g4.own g2
  have hl := r'.length
  rw [List.length_map] at hl
  refine ⟨p, us', v, rfl, rfl, a', Nat.lt_of_lt_of_le (by omega : us'.length < 100000) (by decide), f.nx _ _ F' _ k l (o'.mut h ?_)⟩
  have z : OwnX F' (upd H' p (.lst (us' ++ [v]))) p (.list (xs.map d ++ [d x])) := .lst upd_same (rvl_snoc r' rv)
  have q : (d (xs ++ [x]) : PyData) = .list (xs.map d ++ [d x]) := by
    show PyData.list ((xs ++ [x]).map d) = _
    rw [List.map_append]
    rfl
  rw [q]
  exact z
theorem r_pop {_ : Dt α} {ys xs : List α} {x : α} (h : Γ[i]? = some (Sl.ow p (d ys))) (q : ys = xs ++ [x]) (k : R (.nx ((Γ.set i (.ow p (d xs))).set j (.sh (d x))))) : Run T K E Γ (tAsg (tBM0 K "list" rPop (tVar i)) (gName j)) R := fun F0 H0 F H σ D o f => by
  subst q
  obtain ⟨h1, h2, h3, h4⟩ := o.ow i p _ h
  obtain ⟨_, us, a, r⟩ := h4.own h2
  rw [List.map_append] at r
  obtain ⟨ws, w, rfl, r1, r2⟩ := rvl_last r
  refine ⟨_, h1, Or.inl ⟨rfl, _, SqL.of a⟩, p, ws ++ [w], w, rfl, rfl, a, by simp, ?_⟩
  have z : OwnX F (upd H p (.lst (ws ++ [w]).dropLast)) p (d xs) := .lst (by rw [upd_same, List.dropLast_concat]) r1
  exact f.nx _ _ F _ k (Same.refl _) ((o.mut h z).set r2)
theorem r_clear (h : Γ[i]? = some (Sl.ow p (.list es))) (k : R (.nx (Γ.set i (.ow p (.list []))))) : Run T K E Γ (tDrop (tBM0 K "list" rClear (tVar i))) R := fun F0 H0 F H σ D o f => by
  obtain ⟨h1, h2, h3, h4⟩ := o.ow i p _ h
  cases h4 with
  | lst a r => exact ⟨_, h1, Or.inl ⟨rfl, _, SqL.of a⟩, p, _, rfl, rfl, a, f.nx _ _ F _ k (Same.refl _) (o.mut h (.lst upd_same .nil))⟩
/-! ### own dicts -/
theorem r_dput {_ : Dt ν} {B : Dc ν} {q : Pt} {x : ν} (h : Γ[i]? = some (Sl.ow p (d B))) (hv : Es T Γ tv n (d x)) (hk : Es T Γ tk m (d q)) (hz : B.l.length < 100000) (k : R (.nx (Γ.set i (.ow p (d (B.put q x)))))) : Run T K E Γ (sDPut (tVar i) tk tv) R := fun F0 H0 F H σ D o f =>
  hv F0 H0 F H σ o _ fun v F1 H1 l1 o1 r1 _ => ⟨_, (o1.ow i p _ h).1, hk F0 H0 F1 H1 σ o1 _ fun y F2 H2 l2 o2 r2 _ => by
    obtain ⟨h1, h2, h3, h4⟩ := o2.ow i p _ h
    obtain ⟨H3, put, o3, u, hu, u', rfl⟩ := (h4.ownD h2).put o2.st.sub r2 (r1.mono l2) hz
    exact ⟨p, _, rfl, put, f.nx _ _ F2 _ k (l1.trans l2) (o2.mut h (OwnX.ofD o3))⟩⟩
theorem rvK_imm [Dt ν] [Imm ν] {kvs : List (List Key × V)} {l : List (Pt × ν)} (ti : TupIn F G) (h : RvK F kvs l) : RvK G kvs l := by
  induction h with
  | nil => exact .nil
  | cons a r ih => exact .cons (a.imm ti (Imm.h _)) ih
/-- a dict that is told new is kept as an own one -/
theorem r_ownD {_ : Dt ν} [Imm ν] {B : Dc ν} (h : ExN T (see Γ) te (d B)) (k : ∀ p, R (.nx (Γ.set i (.ow p (d B))))) : Run T K E Γ (tAsg te (gName i)) R := fun F0 H0 F H σ D o f => h σ _ o.toSee H o.seeSub o.st.tab _ fun v G H' s0 r0 n => by
  have s := o.unsee s0
  obtain ⟨p, kvs, rfl, a, r⟩ := rv_dc r0
  have hp := n p rfl
  have fp := o.st.sub.free hp
  have s' : Step T F (erase (hideF Γ G) p) H H' := ⟨erase_ff s.ff fp, erase_sub s.sub, s.ext, fun b z1 z2 => by
    by_cases y : b = p
    · rw [y, erase_same]
    · rw [erase_ne y]
      exact s.new b z1 z2, s.tab⟩
  have ti : TupIn G (erase (hideF Γ G) p) := fun b ws h => by
    have nb : b ≠ p := fun z => by
      rw [z, a] at h
      cases h
    rw [erase_ne nb]
    exact o.tupIn s0 b ws h
  exact f.nx _ _ (erase (hideF Γ G) p) H' (k p) s'.ff ((o.step s').keep erase_same (o.st.ext.live p hp) (OwnX.ofD ⟨erase_same, kvs, (s0.sub _ _ a).1, rvK_imm ti r⟩) (o.noOw hp))
theorem r_ownL {_ : Dt α} [Imm α] {xs : List α} (h : ExN T (see Γ) te (d xs)) (k : ∀ p, R (.nx (Γ.set i (.ow p (d xs))))) : Run T K E Γ (tAsg te (gName i)) R := r_ownSN (es := xs.map d) h (immAll_map xs) k
theorem es_seeD {_ : Dt ν} [Imm ν] {B : Dc ν} (h : ExN T (see Γ) te (d B)) : Es T Γ te true (d B) := fun F0 H0 F H σ o Q q => h σ _ o.toSee H o.seeSub o.st.tab Q fun v G H' s r n => by
  refine q v (hideF Γ G) H' (o.unsee s).ff (o.step (o.unsee s)) ?_ fun _ p z => o.st.ext.live p (n p z)
  obtain ⟨p, kvs, rfl, a, r⟩ := rv_dc r
  have nw : ¬ IsOw Γ p := fun ⟨i, e, q⟩ => (o.ow i p e q).2.2.2.wr.some (n p rfl)
  exact (rvK_imm (o.tupIn s) r).rv (by rw [hideF_no nw]; exact a)
theorem es_seeL {_ : Dt α} [Imm α] {xs : List α} (h : ExN T (see Γ) te (d xs)) : Es T Γ te true (d xs) := es_seeN (es := xs.map d) h (immAll_map xs)
theorem es_imm {_ : Dt α} [Imm α] {x : α} (h : Ex T (see Γ) te (d x)) : Es T Γ te false (d x) := es_see h (Imm.h x)
/-- an empty dict -/
theorem exN_dnew {_ : Dt ν} : ExN T Δ (tOr2 tDNewK tDNewT) (d (⟨[]⟩ : Dc ν)) := fun σ F s H su t Q q => .inr fun p hp => by
  have st := Step.made (o := .dT []) su t hp nt_dT
  exact q _ _ _ st ((RvK.nil (F := upd F p (.dT []))).rv (D := (⟨[]⟩ : Dc ν)) upd_same) fun p' e => by
    cases e
    exact hp
/-! ### loops -/
/-- what a turn of a loop may lead to -/
def turnR (I : List Sl → Prop) (R : Out → Prop) : Out → Prop
  | .nx Γ => I Γ
  | .ct Γ => I Γ
  | .bk Γ => R (.nx Γ)
  | .rt n e Γ => R (.rt n e Γ)
  | .ex c => R (.ex c)
theorem Less.refl : Less Γ Γ := ⟨rfl, fun _ _ h => .inr h⟩
theorem Less.set {s : Sl} (l : Less Γ Γ') : Less (Γ.set i s) (Γ'.set i s) := by
  refine ⟨by simp [l.1], fun j r h => ?_⟩
  rcases get_set h with ⟨rfl, hl, z⟩ | ⟨n, z⟩
  · subst z
    exact .inr (by rw [List.getElem?_set_self (by rw [l.1]; exact hl)])
  · rw [List.getElem?_set_ne n]
    exact l.2 j r z
theorem Less.sets : ∀ {bs : List (Nat × PyData)} {Γ Γ' : List Sl}, Less Γ Γ' → Less (setsG Γ bs) (setsG Γ' bs)
  | [], _, _, l => l
  | b :: bs, _, _, l => Less.sets (bs := bs) (l.set (i := b.1))
theorem r_for {_ : Dt α} {xs : List α} (I : Nat → List Sl → Prop) (h : Ei T (hid Γ) wi (xs.map d)) (h0 : I 0 Γ)
    (turn : ∀ (i : Nat) (x : α) (Γ' : List Sl), xs[i]? = some x → I i Γ' → ∃ bs, Bd g (d x) bs ∧ Run T K E (setsG Γ' bs) tbd (turnR (I (i + 1)) R)) (done : ∀ Γ', I xs.length Γ' → ∃ Γ2, Less Γ' Γ2 ∧ R (.nx Γ2)) : Run T K E Γ (tFor wi g tbd) R := fun F0 H0 F H σ D o f =>
  s_forX (h σ F o.toHid) o.st (fun i σ' F' H' => ∃ Γ', I i Γ' ∧ Ok T F0 H0 F' H' σ' Γ') (fun F' H' s => ⟨Γ, h0, o.step s⟩)
    (fun i x v σ1 F1 H1 F2 H2 hx l s1 ⟨Γ', hI, o1⟩ s2 rv N hN => by
      obtain ⟨bs, b, run⟩ := turn i x Γ' hx hI
      obtain ⟨ws, h1, h2⟩ := b F2 v rv
      have o2 := o1.step s2
      refine h2 H2 σ1 _ o2.st.sub (run F0 H0 F2 H2 _ _ (o2.sets h1) ⟨fun Γ2 σ3 F3 H3 r l3 o3 => hN σ3 F3 H3 l3 o3.st ⟨Γ2, r, o3⟩, fun Γ2 σ3 F3 H3 r l3 o3 => f.nx Γ2 σ3 F3 H3 r ((l.trans s2.ff).trans l3) o3, fun Γ2 σ3 F3 H3 r l3 o3 => hN σ3 F3 H3 l3 o3.st ⟨Γ2, r, o3⟩,
        fun n e Γ2 σ3 F3 H3 w r l3 o3 r3 z => f.rt n e Γ2 σ3 F3 H3 w r ((l.trans s2.ff).trans l3) o3 r3 z, fun c F3 H3 r l3 st => f.ex c F3 H3 r ((l.trans s2.ff).trans l3) st⟩))
    fun σ' F' H' l s ⟨Γ', hI, o'⟩ => by
      obtain ⟨Γ2, l2, r⟩ := done Γ' hI
      exact f.nx Γ2 σ' F' H' r l (o'.less l2)
/-- one is known as far as the other -/
def LessL : List Sl → List Sl → Prop
  | [], [] => True
  | a :: as, b :: bs => (b = .no ∨ a = b) ∧ LessL as bs
  | _, _ => False
theorem less_of : ∀ {Γ Γ' : List Sl}, LessL Γ Γ' → Less Γ Γ'
  | [], [], _ => ⟨rfl, fun i s h => by simp at h⟩
  | a :: as, b :: bs, h => by
    obtain ⟨h1, h2⟩ := h
    obtain ⟨l1, l2⟩ := less_of h2
    refine ⟨by simp [l1], fun i s q => ?_⟩
    cases i with
    | zero =>
      simp only [List.getElem?_cons_zero, Option.some.injEq] at q ⊢
      subst q
      rcases h1 with z | z
      · exact .inl z
      · exact .inr z
    | succ i =>
      simp only [List.getElem?_cons_succ] at q ⊢
      exact l2 i s q
/-- a loop that folds: s is what is told beside, env what the slots hold then -/
theorem r_forF {τ : Type} {_ : Dt α} {xs : List α} (env : τ → List Sl) (f : τ → α → τ) (s0 : τ) (Inv : Nat → τ → Prop) (h : Ei T (hid Γ) wi (xs.map d)) (h0 : LessL Γ (env s0)) (i0 : Inv 0 s0)
    (turn : ∀ (i : Nat) (x : α) (s : τ), xs[i]? = some x → s = (xs.take i).foldl f s0 → Inv i s → Inv (i + 1) (f s x) ∧ ∃ bs, Bd g (d x) bs ∧ Run T K E (setsG (env s) bs) tbd (turnR (fun Γ' => LessL Γ' (env (f s x))) R))
    (done : Inv xs.length (xs.foldl f s0) → R (.nx (env (xs.foldl f s0)))) : Run T K E Γ (tFor wi g tbd) R := by
  refine r_for (fun i Γ' => Less Γ' (env ((xs.take i).foldl f s0)) ∧ Inv i ((xs.take i).foldl f s0)) h ⟨less_of h0, i0⟩ (fun i x Γ' hx ⟨l, hi⟩ => ?_) fun Γ' ⟨l, hi⟩ => ?_
  · obtain ⟨hi', bs, b, run⟩ := turn i x _ hx rfl hi
    have e : (xs.take (i + 1)).foldl f s0 = f ((xs.take i).foldl f s0) x := by rw [take_snoc hx, List.foldl_append]; rfl
    refine ⟨bs, b, r_less l.sets (run.mono fun o r => ?_)⟩
    rw [e]
    cases o with
    | nx Γ2 => exact ⟨less_of r, hi'⟩
    | ct Γ2 => exact ⟨less_of r, hi'⟩
    | bk Γ2 => exact r
    | rt n e Γ2 => exact r
    | ex c => exact r
  · rw [List.take_length] at l hi
    exact ⟨_, l, done hi⟩
/-- a while that a ghost follows -/
theorem r_while {τ : Type} (env : τ → List Sl) (Inv : τ → Prop) (μ : τ → Nat) (b : τ → Bool) (g0 : τ) (h0 : LessL Γ (env g0)) (i0 : Inv g0) (test : ∀ g, Inv g → Et T (see (env g)) c (b g))
    (turn : ∀ g, Inv g → b g = true → Run T K E (env g) tbd (turnR (fun Γ' => ∃ g', Inv g' ∧ μ g' < μ g ∧ LessL Γ' (env g')) R)) (done : ∀ g, Inv g → b g = false → R (.nx (env g))) : Run T K E Γ (tWhile c tbd) R := fun F0 H0 F H σ D o f =>
  s_whileG g0 (fun g σ' F' H' => Inv g ∧ Ok T F0 H0 F' H' σ' (env g)) μ b o.st ⟨i0, o.less (less_of h0)⟩ (fun g σ1 F1 H1 l s1 ⟨hi, o1⟩ Q hQ => o1.test (test g hi) Q fun H2 s2 => hQ H2 s2 ⟨hi, o1.step s2⟩)
    (fun g σ1 F1 H1 l s1 ⟨hi, o1⟩ hb N hN => turn g hi hb F0 H0 F1 H1 σ1 _ o1 ⟨fun Γ2 σ3 F3 H3 ⟨g', i', m', l'⟩ l3 o3 => hN g' σ3 F3 H3 l3 o3.st ⟨i', o3.less (less_of l')⟩ m', fun Γ2 σ3 F3 H3 r l3 o3 => f.nx Γ2 σ3 F3 H3 r (l.trans l3) o3, fun Γ2 σ3 F3 H3 ⟨g', i', m', l'⟩ l3 o3 => hN g' σ3 F3 H3 l3 o3.st ⟨i', o3.less (less_of l')⟩ m',
      fun n e Γ2 σ3 F3 H3 w r l3 o3 r3 z => f.rt n e Γ2 σ3 F3 H3 w r (l.trans l3) o3 r3 z, fun c F3 H3 r l3 st => f.ex c F3 H3 r (l.trans l3) st⟩) fun g σ1 F1 H1 l s1 ⟨hi, o1⟩ hb => f.nx _ σ1 F1 H1 (done g hi hb) l o1
/-! ### what is raised -/
/-- te raises c -/
def Er (T : List (Addr × Str)) (K : PySem.W.Frag) (E : XK) (Δ : List Sl) (te : TE) (c : Str) : Prop := ∀ (σ : St) (F : Hp), Sh F σ Δ → ∀ H, Sub F H → LamX.Tabs T H → (∀ F' H', Step T F F' H H' → E (.ref (He.ga K c)) none H') → ∀ Q : VK, te σ H Q
def Era (T : List (Addr × Str)) (K : PySem.W.Frag) (E : XK) (Δ : List Sl) (ta : TA) (c : Str) : Prop := ∀ (σ : St) (F : Hp), Sh F σ Δ → ∀ H, Sub F H → LamX.Tabs T H → (∀ F' H', Step T F F' H H' → E (.ref (He.ga K c)) none H') → ∀ Q : List V → Hp → Prop, ta σ H Q
theorem er_head {x : Str} (h : Er T K E Δ te x) : Era T K E Δ (tCons te tr) x := fun σ F s H su t z Q => h σ F s H su t z _
theorem er_tail {x : Str} (h : Ex T Δ te e) (hr : Era T K E Δ tr x) : Era T K E Δ (tCons te tr) x := fun σ F s H su t z Q => h σ F s H su t _ fun v F1 H1 s1 r => hr σ F1 (s.mono s1.ff) H1 s1.sub s1.tab (fun F2 H2 s2 => z F2 H2 (s1.trans s2)) _
theorem er_args {x : Str} {sp : Sp} {E' : XK} (h : Era T K E Δ tr x) : Er T K E Δ (tCall sp [] E' tr) x := fun σ F s H su t z Q => h σ F s H su t z _
theorem er_lst {x : Str} (h : Era T K E Δ tr x) : Er T K E Δ (tLst tr) x := fun σ F s H su t z Q => h σ F s H su t z _
theorem er_tup {x : Str} (h : Era T K E Δ tr x) : Er T K E Δ (tTup tr) x := fun σ F s H su t z Q => h σ F s H su t z _
theorem Ok.er {x : Str} (o : Ok T F0 H0 F H σ Γ) (h : Er T K E (see Γ) te x) (f : Fin T K E F0 H0 F D R) (r : R (.ex x)) (Q : VK) : te σ H Q := h σ _ o.toSee H o.seeSub o.st.tab (fun G H' s => f.ex x (hideF Γ G) H' r (o.unsee s).ff (o.st.trans (o.unsee s))) Q
theorem r_asgX {x : Str} (h : Er T K E (see Γ) te x) (k : R (.ex x)) : Run T K E Γ (tAsg te g) R := fun F0 H0 F H σ D o f => o.er h f k _
theorem r_retX {x : Str} (h : Er T K E (see Γ) te x) (k : R (.ex x)) : Run T K E Γ (tRet te) R := fun F0 H0 F H σ D o f => o.er h f k _
theorem r_dropX {x : Str} (h : Er T K E (see Γ) te x) (k : R (.ex x)) : Run T K E Γ (tDrop te) R := fun F0 H0 F H σ D o f => o.er h f k _
/-- a def that looks and makes, or raises: R tells its answer by its arguments' data -/
def Px (T : List (Addr × Str)) (K : PySem.W.Frag) (n : Bool) (R : List PyData → Except Str PyData → Prop) : Sp := fun vs H Q E => ∃ (F : Hp) (es : List PyData) (r : Except Str PyData), Sub F H ∧ LamX.Tabs T H ∧ RvL F vs es ∧ R es r ∧ match r with
  | .ok e => ∀ v F' H', Step T F F' H H' → Rv F' v e → (n = true → ∀ p, v = .ref p → H p = none) → Q v H'
  | .error x => ∀ F' H', Step T F F' H H' → E (.ref (He.ga K x)) none H'
variable {P : List PyData → Except Str PyData → Prop}
theorem ex_px (h : Ea T Δ tr es) (r : P es (.ok e)) : Ex T Δ (tCall (Px T K n P) [] E tr) e := fun σ F s H su t Q q => h σ F s H su t _ fun vs F1 H1 s1 rv => ⟨F1, es, .ok e, s1.sub, s1.tab, by rw [List.append_nil]; exact rv, r, fun v F2 H2 s2 r2 _ => q v F2 H2 (s1.trans s2) r2⟩
theorem exN_px (h : Ea T Δ tr es) (r : P es (.ok e)) : ExN T Δ (tCall (Px T K true P) [] E tr) e := fun σ F s H su t Q q => h σ F s H su t _ fun vs F1 H1 s1 rv => ⟨F1, es, .ok e, s1.sub, s1.tab, by rw [List.append_nil]; exact rv, r, fun v F2 H2 s2 r2 z => q v F2 H2 (s1.trans s2) r2 fun p y => s1.ext.live p (z rfl p y)⟩
theorem er_px {x : Str} (h : Ea T Δ tr es) (r : P es (.error x)) : Er T K E Δ (tCall (Px T K n P) [] E tr) x := fun σ F s H su t z Q => h σ F s H su t _ fun vs F1 H1 s1 rv => ⟨F1, es, .error x, s1.sub, s1.tab, by rw [List.append_nil]; exact rv, r, fun F2 H2 s2 => z F2 H2 (s1.trans s2)⟩
theorem len_px {N : Nat} {vs : List V} {Q : VK} (hP : ∀ es r, P es r → es.length = N) (h : Px T K n P vs H Q E) : vs.length = N := by
  obtain ⟨F, es, r, _, _, rv, z, _⟩ := h
  rw [rv.length]
  exact hP es r z
/-! ### defs -/
/-- the body is done as R says -/
def resR (n : Bool) (r : Except Str PyData) : Out → Prop
  | .nx _ => r = .ok .none
  | .rt m e _ => r = .ok e ∧ (n = true → m = true)
  | .ex c => r = .error c
  | _ => False
theorem ok_start {N : List Str} {vs : List V} (k : Nat) (s : Sub F H) (t : LamX.Tabs T H) (r : RvL F vs es) (hN : N.length = es.length + k) : Ok T F H F H (L2.start N vs) (es.map Sl.sh ++ List.replicate k .no) := by
  have l := r.length
  have get : ∀ (i : Nat) (s : Sl), (es.map Sl.sh ++ List.replicate k Sl.no)[i]? = some s → s = .no ∨ ∃ e v, s = .sh e ∧ (L2.start N vs)[i]? = some (some v) ∧ Rv F v e := fun i s h => by
    by_cases hi : i < es.length
    · rw [List.getElem?_append_left (by simpa using hi), List.getElem?_map, List.getElem?_eq_getElem hi] at h
      simp only [Option.map_some, Option.some.injEq] at h
      obtain ⟨u, h1, h2⟩ := r.get (List.getElem?_eq_getElem hi)
      refine .inr ⟨_, u, h.symm, ?_, h2⟩
      unfold L2.start
      rw [List.getElem?_append_left (by simpa using (by omega : i < vs.length)), List.getElem?_map, h1]
      rfl
    · rw [List.getElem?_append_right (by simpa using hi), List.getElem?_replicate] at h
      split at h
      · exact .inl (Option.some.inj h).symm
      · cases h
  refine ⟨.refl s t, ?_, fun i e h => ?_, fun i p e h => ?_, fun i v h => ?_, fun i K ns h => ?_, fun i j p e e' h _ => ?_⟩
  · unfold L2.start
    simp only [List.length_append, List.length_map, List.length_replicate]
    omega
  · rcases get i _ h with z | ⟨e', v, z, h1, h2⟩
    · cases z
    · cases z
      exact ⟨v, h1, h2⟩
  · rcases get i _ h with z | ⟨e', v, z, _⟩ <;> cases z
  · rcases get i _ h with z | ⟨e', v, z, _⟩ <;> cases z
  · rcases get i _ h with z | ⟨e', v, z, _⟩ <;> cases z
  · rcases get i _ h with z | ⟨e', v, z, _⟩ <;> cases z
theorem run_px {N : List Str} {vs : List V} {Q : VK} (k : Nat) (a : Nat) (h : Px T K n P vs H Q E) (ha : ∀ es r, P es r → es.length = a) (hN : N.length = a + k)
    (run : ∀ es r, P es r → Run T K E (es.map Sl.sh ++ List.replicate k .no) t (resR n r)) : t { nx := fun _ H' => Q .non H', rt := Q } (L2.start N vs) H := by
  obtain ⟨F, es, r, s, tb, rv, hp, q⟩ := h
  refine run es r hp F H F H _ _ (ok_start k s tb rv (by rw [ha es r hp]; exact hN)) ⟨fun Γ σ F' H' z l o => ?_, fun Γ σ F' H' z l o => z.elim, fun Γ σ F' H' z l o => z.elim, fun m e Γ σ F' H' v z l o r1 y => ?_, fun c F' H' z _ st => ?_⟩
  · have z' : r = .ok .none := z
    subst z'
    exact q .non F' H' o.st .non fun _ p y => nomatch y
  · obtain ⟨z1, z2⟩ := (show r = .ok e ∧ (n = true → m = true) from z)
    subst z1
    exact q v F' H' o.st r1 fun hn => y (z2 hn)
  · have z' : r = .error c := z
    subst z'
    exact q F' H' st
theorem run_pu1 [Dt α] [Dt β] {f : α → β} {pre : α → Prop} {N : List Str} {vs : List V} {Q : VK} (k : Nat) (h : Pu T (R1 f pre) vs H Q E) (hN : N.length = 1 + k) (run : ∀ x, pre x → Run T K E (.sh (d x) :: List.replicate k .no) t (resR false (.ok (d (f x))))) : t { nx := fun _ H' => Q .non H', rt := Q } (L2.start N vs) H := by
  obtain ⟨F, e, s, tb, ⟨x, rv, hp, rfl⟩, q⟩ := h
  exact run_px (K := K) (E := E) (n := false) (P := fun es r => ∃ x, pre x ∧ es = [d x] ∧ r = .ok (d (f x))) k 1 ⟨F, [d x], .ok (d (f x)), s, tb, rv, ⟨x, hp, rfl, rfl⟩, fun v F' H' st r _ => q v F' H' st r⟩ (fun es r ⟨x, _, e, _⟩ => by rw [e]; rfl) hN fun es r ⟨x, hp, e1, e2⟩ => by
    subst e1 e2
    exact run x hp
theorem run_puN1 [Dt α] [Dt β] {f : α → β} {pre : α → Prop} {N : List Str} {vs : List V} {Q : VK} (k : Nat) (h : PuN T (R1 f pre) vs H Q E) (hN : N.length = 1 + k) (run : ∀ x, pre x → Run T K E (.sh (d x) :: List.replicate k .no) t (resR true (.ok (d (f x))))) : t { nx := fun _ H' => Q .non H', rt := Q } (L2.start N vs) H := by
  obtain ⟨F, e, s, tb, ⟨x, rv, hp, rfl⟩, q⟩ := h
  exact run_px (K := K) (E := E) (n := true) (P := fun es r => ∃ x, pre x ∧ es = [d x] ∧ r = .ok (d (f x))) k 1 ⟨F, [d x], .ok (d (f x)), s, tb, rv, ⟨x, hp, rfl, rfl⟩, fun v F' H' st r z => q v F' H' st r (z rfl)⟩ (fun es r ⟨x, _, e, _⟩ => by rw [e]; rfl) hN fun es r ⟨x, hp, e1, e2⟩ => by
    subst e1 e2
    exact run x hp
theorem run_pu2 [Dt α] [Dt β] [Dt γ] {f : α → β → γ} {pre : α → β → Prop} {N : List Str} {vs : List V} {Q : VK} (k : Nat) (h : Pu T (R2' f pre) vs H Q E) (hN : N.length = 2 + k) (run : ∀ x y, pre x y → Run T K E (.sh (d x) :: .sh (d y) :: List.replicate k .no) t (resR false (.ok (d (f x y))))) : t { nx := fun _ H' => Q .non H', rt := Q } (L2.start N vs) H := by
  obtain ⟨F, e, s, tb, ⟨x, y, rv, hp, rfl⟩, q⟩ := h
  exact run_px (K := K) (E := E) (n := false) (P := fun es r => ∃ x y, pre x y ∧ es = [d x, d y] ∧ r = .ok (d (f x y))) k 2 ⟨F, [d x, d y], .ok (d (f x y)), s, tb, rv, ⟨x, y, hp, rfl, rfl⟩, fun v F' H' st r _ => q v F' H' st r⟩ (fun es r ⟨x, y, _, e, _⟩ => by rw [e]; rfl) hN fun es r ⟨x, y, hp, e1, e2⟩ => by
    subst e1 e2
    exact run x y hp
theorem run_puN2 [Dt α] [Dt β] [Dt γ] {f : α → β → γ} {pre : α → β → Prop} {N : List Str} {vs : List V} {Q : VK} (k : Nat) (h : PuN T (R2' f pre) vs H Q E) (hN : N.length = 2 + k) (run : ∀ x y, pre x y → Run T K E (.sh (d x) :: .sh (d y) :: List.replicate k .no) t (resR true (.ok (d (f x y))))) : t { nx := fun _ H' => Q .non H', rt := Q } (L2.start N vs) H := by
  obtain ⟨F, e, s, tb, ⟨x, y, rv, hp, rfl⟩, q⟩ := h
  exact run_px (K := K) (E := E) (n := true) (P := fun es r => ∃ x y, pre x y ∧ es = [d x, d y] ∧ r = .ok (d (f x y))) k 2 ⟨F, [d x, d y], .ok (d (f x y)), s, tb, rv, ⟨x, y, hp, rfl, rfl⟩, fun v F' H' st r z => q v F' H' st r (z rfl)⟩ (fun es r ⟨x, y, _, e, _⟩ => by rw [e]; rfl) hN fun es r ⟨x, y, hp, e1, e2⟩ => by
    subst e1 e2
    exact run x y hp
theorem run_pu3 [Dt α] [Dt β] [Dt γ] [Dt ν] {f : α → β → γ → ν} {pre : α → β → γ → Prop} {N : List Str} {vs : List V} {Q : VK} (k : Nat) (h : Pu T (R3 f pre) vs H Q E) (hN : N.length = 3 + k) (run : ∀ x y z, pre x y z → Run T K E (.sh (d x) :: .sh (d y) :: .sh (d z) :: List.replicate k .no) t (resR false (.ok (d (f x y z))))) : t { nx := fun _ H' => Q .non H', rt := Q } (L2.start N vs) H := by
  obtain ⟨F, e, s, tb, ⟨x, y, z, rv, hp, rfl⟩, q⟩ := h
  exact run_px (K := K) (E := E) (n := false) (P := fun es r => ∃ x y z, pre x y z ∧ es = [d x, d y, d z] ∧ r = .ok (d (f x y z))) k 3 ⟨F, [d x, d y, d z], .ok (d (f x y z)), s, tb, rv, ⟨x, y, z, hp, rfl, rfl⟩, fun v F' H' st r _ => q v F' H' st r⟩ (fun es r ⟨x, y, z, _, e, _⟩ => by rw [e]; rfl) hN fun es r ⟨x, y, z, hp, e1, e2⟩ => by
    subst e1 e2
    exact run x y z hp
end
end Tf

/-! Rules for what is found by search: marks of the judgements, items with a default, equality of typed data. -/
namespace Tf
open PySem PySem.Spec PyProof.Rows L2 Dt
section
variable {T : List (Addr × Str)} {α β γ ν : Type} {Γ Δ : List Sl} {te ta tb tc : TE} {tr : TA} {tt : TT} {g : TG} {gs : TGs} {K : PySem.W.Frag} {wi : TI} {E X : XK} {e : PyData} {es : List PyData} {R : Out → Prop} {bs : List (Nat × PyData)} {t : TS} {n : Bool}
theorem chk_prop {p : Prop} (h : p) : p := h
theorem chk_ex (h : Ex T Δ te e) : Ex T Δ te e := h
theorem chk_exN (h : ExN T Δ te e) : ExN T Δ te e := h
theorem chk_et {b : Bool} (h : Et T Δ tt b) : Et T Δ tt b := h
theorem chk_ei (h : Ei T Δ wi es) : Ei T Δ wi es := h
theorem chk_ea (h : Ea T Δ tr es) : Ea T Δ tr es := h
theorem chk_bd (h : Bd g e bs) : Bd g e bs := h
theorem chk_bds (h : BdS gs es bs) : BdS gs es bs := h
theorem chk_run (h : Run T K E Γ t R) : Run T K E Γ t R := h
theorem chk_es (h : Es T Γ te n e) : Es T Γ te n e := h
theorem exN_nil (α : Type) [Dt α] : ExN T Δ (tLst tNil) (d ([] : List α)) := exN_lst exs_nil (Nat.le_of_ble_eq_true rfl)
theorem ex_nil (α : Type) [Dt α] : Ex T Δ (tLst tNil) (d ([] : List α)) := (exN_nil α).ex
theorem ex_ixG {_ : Dt α} {xs : List α} {i : Int} (ha : Ex T Δ ta (d xs)) (hb : Ex T Δ tb (d i)) (di : Inhabited α) (h0 : 0 ≤ i ∧ i.toNat < xs.length) : Ex T Δ (tIxU K ta tb) (d (xs.getD i.toNat default)) := ex_ixL ha hb ⟨h0.1, by
  rw [List.getD_eq_getElem?_getD, List.getElem?_eq_getElem h0.2]
  rfl⟩
theorem ex_dGetG {_ : Dt ν} {D : Dc ν} {k : Pt} (ha : Ex T Δ ta (d D)) (hb : Ex T Δ tb (d k)) (di : Inhabited ν) (h : (D.get k).isSome = true) : Ex T Δ (tIxU K ta tb) (d ((D.get k).getD default)) := ex_dGet ha hb (by
  obtain ⟨x, hx⟩ := Option.isSome_iff_exists.mp h
  rw [hx]
  rfl)
theorem ex_eqP {x y : Pt} (ha : Ex T Δ ta (d x)) (hb : Ex T Δ tb (d y)) : Ex T Δ (tOp (rEqD K) ta tb) (d (decide (x = y))) := ex_eq (ex_eqD ha hb) (congrArg d (decide_eq_decide.mpr Iff.rfl))
theorem ex_neP {x y : Pt} (ha : Ex T Δ ta (d x)) (hb : Ex T Δ tb (d y)) : Ex T Δ (tOp (rNeD K) ta tb) (d (!decide (x = y))) := ex_eq (ex_neD ha hb) (congrArg (fun b : Bool => d (!b)) (decide_eq_decide.mpr Iff.rfl))
theorem ex_eqG {_ : Dt α} {x y : α} (ha : Ex T Δ ta (d x)) (hb : Ex T Δ tb (d y)) (h : Dq α) (de : DecidableEq α) (hd : Dq.dep α ≤ 64) : Ex T Δ (tOp (rEqD K) ta tb) (d (@decide (x = y) (de x y))) := ex_eq (ex_eqD ha hb hd) (congrArg d (decide_eq_decide.mpr Iff.rfl))
theorem ex_neG {_ : Dt α} {x y : α} (ha : Ex T Δ ta (d x)) (hb : Ex T Δ tb (d y)) (h : Dq α) (de : DecidableEq α) (hd : Dq.dep α ≤ 64) : Ex T Δ (tOp (rNeD K) ta tb) (d (!@decide (x = y) (de x y))) := ex_eq (ex_neD ha hb hd) (congrArg (fun b : Bool => d (!b)) (decide_eq_decide.mpr Iff.rfl))
theorem ex_inG {_ : Dt α} {x : α} {xs : List α} (ha : Ex T Δ ta (d x)) (hb : Ex T Δ tb (d xs)) (h : Dq α) (de : DecidableEq α) (hd : Dq.dep α ≤ 60) : Ex T Δ (tOr2 (tOp (rInU K) ta tb) (tDIn ta tb)) (d (decide (x ∈ xs))) := .of fun _ _ s => ev_eq (ev_in (ha.at s) (hb.at s) hd) (decide_eq_decide.mpr Iff.rfl)
theorem ex_notinG {_ : Dt α} {x : α} {xs : List α} (ha : Ex T Δ ta (d x)) (hb : Ex T Δ tb (d xs)) (h : Dq α) (de : DecidableEq α) (hd : Dq.dep α ≤ 60) : Ex T Δ (tOr2 (tOp (rNotInU K) ta tb) (tDNotIn ta tb)) (d (!decide (x ∈ xs))) := .of fun _ _ s => ev_eq (ev_notin (ha.at s) (hb.at s) hd) (congrArg (! ·) (decide_eq_decide.mpr Iff.rfl))
theorem ex_isN {_ : Dt α} {x : α} {neg : Bool} (ha : Ex T Δ ta (d x)) (n : Bool) (h : (d x = .none) ↔ n = true) : Ex T Δ (tOp (rIsU neg) ta (tC .non)) (d (if neg then !n else n)) := .of fun _ _ s => ev_isN (ha.at s) h
theorem ex_isB {x y neg : Bool} (ha : Ex T Δ ta (d x)) (hb : Ex T Δ tb (d y)) : Ex T Δ (tOp (rIsU neg) ta tb) (d (if neg then !decide (x = y) else decide (x = y))) := .of fun _ _ s => ev_isB (ha.at s) (hb.at s)
theorem ex_ltLe {x y : Int} : d (!decide (x ≤ y)) = d (decide (y < x)) := by
  congr 1
  by_cases h : x ≤ y
  · rw [decide_eq_true h, decide_eq_false (by omega)]; rfl
  · rw [decide_eq_false h, decide_eq_true (by omega)]; rfl
/-! the Floor -/
variable {C : Addr} {CC : XK} {m : Str}
theorem ex_m0 {_ : Dt β} {f : Fl → β} {pre : Fl → Prop} {x : Fl} (h : Ex T Δ te (d x)) (hp : pre x) (hc : x.cls = C) (hm : m ∉ flNames) : Ex T Δ (tMeth C m (Pu T (R1 f pre)) [] CC te tNil) (d (f x)) := .of fun _ _ s => ev_m0 (h.at s) hp hc hm
theorem exN_m0 {_ : Dt β} {f : Fl → β} {pre : Fl → Prop} {x : Fl} (h : Ex T Δ te (d x)) (hp : pre x) (hc : x.cls = C) (hm : m ∉ flNames) : ExN T Δ (tMeth C m (PuN T (R1 f pre)) [] CC te tNil) (d (f x)) := .of fun _ _ s => ev_m0N (h.at s) hp hc hm
theorem ex_m1 {_ : Dt α} {_ : Dt β} {f : Fl → α → β} {pre : Fl → α → Prop} {x : Fl} {y : α} (h : Ex T Δ te (d x)) (h' : Ex T Δ ta (d y)) (hp : pre x y) (hc : x.cls = C) (hm : m ∉ flNames) : Ex T Δ (tMeth C m (Pu T (R2' f pre)) [] CC te (tCons ta tNil)) (d (f x y)) := .of fun _ _ s => ev_m1 (h.at s) (h'.at s) hp hc hm
theorem exN_beside {f : Fl} {p : Pt} (h : Ex (tabs K) Δ te (d f)) (h' : Ex (tabs K) Δ ta (d p)) (hf : isFl K f) (hc : f.cls = C) (hp : inK f p = true) : ExN (tabs K) Δ (tMeth C "beside" (sp_Floor_m_beside K) [] CC te (tCons ta tNil)) (d (besideOf f p)) := .of fun _ _ s => ev_beside (h.at s) (h'.at s) hf hc hp
/-! rows of signs -/
theorem ex_ixR {r : Row} {i : Int} (ha : Ex T Δ ta (d r)) (hb : Ex T Δ tb (d i)) (h : (0 ≤ i ∧ i.toNat < r.bs.length) ∧ r.bs.length ≤ 1000) : Ex T Δ (tIxU K ta tb) (d (⟨[r.bs.getD i.toNat false]⟩ : Row)) := .of fun _ _ s => ev_ixR (ha.at s) (hb.at s) h.1.1 h.2 (by
  rw [List.getD_eq_getElem?_getD, List.getElem?_eq_getElem h.1.2]
  rfl)
theorem ex_lenR {r : Row} (h : Ex T Δ te (d r)) (hl : r.bs.length ≤ 1000) : Ex T Δ (tCB (rLenU K) (tCons te tNil)) (d (r.bs.length : Int)) := .of fun _ _ s => ev_lenR (h.at s) hl
theorem ex_row {r : Row} {x : Str} (e : x = txt r.bs) : Ex T Δ (tC (.str x)) (d r) := .of fun _ _ _ => ev_row e
theorem ex_catR {a b : Row} (ha : Ex T Δ ta (d a)) (hb : Ex T Δ tb (d b)) (hl : a.bs.length + b.bs.length ≤ 1000) : Ex T Δ (tOp rAddU ta tb) (d (⟨a.bs ++ b.bs⟩ : Row)) := .of fun _ _ s => ev_catR (ha.at s) (hb.at s) hl
theorem ex_mulR {c : Bool} {n : Int} (ha : Ex T Δ ta (d (⟨[c]⟩ : Row))) (hb : Ex T Δ tb (d n)) (h : n ≤ 4096 ∧ -(2 ^ 63) ≤ n) : Ex T Δ (tOp rMulU ta tb) (d (⟨List.replicate n.toNat c⟩ : Row)) := .of fun _ _ s => ev_mulR (ha.at s) (hb.at s) h.1 h.2
theorem ex_joinR {rs : List Row} (h : Ex T Δ te (d rs)) (hz : (rs.map fun r => r.bs.length).sum ≤ 1000000) : Ex T Δ (tM1 (rJoin K) (tC (.str "")) te) (d (⟨(rs.map Row.bs).flatten⟩ : Row)) := .of fun _ _ s => ev_joinR (h.at s) hz
theorem ex_sign {b : Bool} (h : Ex T Δ te (d (⟨[b]⟩ : Row))) : Ex T Δ (tOp (rEqD K) te (tC (.str "#"))) (d b) := .of fun _ _ s => ev_isSign (h.at s)
theorem row_texts {rows : BR} (h : Ex T Δ te (d rows)) : Ex T Δ te (d (rtexts rows)) := by
  rw [rtexts_d]
  exact h
/-! bare data -/
theorem exN_nilX : ExN T Δ (tLst tNil) (.list []) := exN_lstX ea_nil'
theorem ex_catX {xs ys : List PyData} (ha : Ex T Δ ta (.list xs)) (hb : Ex T Δ tb (.list ys)) (hl : xs.length + ys.length ≤ 100000) : Ex T Δ (tOp rAddU ta tb) (.list (xs ++ ys)) := by
  have m : ∀ zs : List PyData, (d zs : PyData) = .list zs := fun zs => by
    show PyData.list (zs.map fun x => x) = _
    rw [List.map_id']
  rw [← m] at ha hb ⊢
  exact ex_cat ha hb hl
theorem ex_ixX {xs : List PyData} {i : Int} (ha : Ex T Δ ta (.list xs)) (hb : Ex T Δ tb (d i)) (h0 : 0 ≤ i ∧ i.toNat < xs.length) : Ex T Δ (tIxU K ta tb) (xs.getD i.toNat .none) := by
  have m : ∀ zs : List PyData, (d zs : PyData) = .list zs := fun zs => by
    show PyData.list (zs.map fun x => x) = _
    rw [List.map_id']
  rw [← m] at ha
  exact ex_ixG ha hb ⟨.none⟩ h0
theorem exN_dnewK : ExN T Δ (tOr2 tDNewK tDNewT) (.dict [(.none, .none)]) := fun σ F s H su t Q q => .inl fun p hp => by
  have st := Step.made (o := .dK []) su t hp (fun _ z => by cases z)
  exact q _ _ _ st (.emp upd_same) fun p' e => by
    cases e
    exact hp
/-! the script -/
variable {v : V} {ns : List Int} {i : Nat}
end
end Tf

/-! Slices, lists of signs, lists and texts times a number, texts put together. -/
namespace Tf
open PySem PySem.Spec PyProof.Rows L2 Dt
instance : Inhabited Row := ⟨⟨[]⟩⟩
theorem row0_len (rows : BR) : (rows.getD (Int.toNat 0) default).bs.length = wd rows := by
  cases rows <;> rfl
theorem uslK {X : Cx} (K : PySem.W.Frag) (hK : X.K = K := by rfl) : SlR X (rSlU K) := hK ▸ sl_list.or sl_str
def cut {α : Type} (xs : List α) (lo hi : Option Int) : List α := (xs.drop (HT.sIx xs.length 0 lo)).take (HT.sIx xs.length xs.length hi - HT.sIx xs.length 0 lo)
theorem cut_map {α β : Type} (f : α → β) (xs : List α) (lo hi : Option Int) : (cut xs lo hi).map f = cut (xs.map f) lo hi := by
  unfold cut
  rw [List.map_take, List.map_drop, List.length_map]
theorem cut_to {α : Type} {xs : List α} {i : Int} (h : 0 ≤ i) : cut xs none (some i) = xs.take i.toNat := by
  unfold cut
  obtain ⟨k, rfl⟩ := Int.eq_ofNat_of_zero_le h
  rw [HT.sIx_none, HT.sIx_nat, Int.toNat_natCast]
  simp only [List.drop_zero, Nat.sub_zero]
  by_cases hk : k ≤ xs.length
  · rw [Nat.min_eq_left hk]
  · rw [Nat.min_eq_right (by omega), List.take_of_length_le (by omega), List.take_of_length_le (by omega)]
theorem cut_from {α : Type} {xs : List α} {i : Int} (h : 0 ≤ i) : cut xs (some i) none = xs.drop i.toNat := by
  unfold cut
  obtain ⟨k, rfl⟩ := Int.eq_ofNat_of_zero_le h
  rw [HT.sIx_none, HT.sIx_nat, Int.toNat_natCast]
  by_cases hk : k ≤ xs.length
  · rw [Nat.min_eq_left hk, List.take_of_length_le (by rw [List.length_drop]; omega)]
  · rw [Nat.min_eq_right (by omega), List.drop_of_length_le (by omega), List.drop_of_length_le (by omega), List.take_nil]
theorem cut_less {α : Type} {xs : List α} {lo hi : Option Int} : (cut xs lo hi).length ≤ xs.length := by
  unfold cut
  rw [List.length_take, List.length_drop]
  omega
theorem RvL.drop {F : Hp} : ∀ {n : Nat} {us : List V} {es : List PyData}, RvL F us es → RvL F (us.drop n) (es.drop n)
  | 0, _, _, r => r
  | n + 1, _, _, .nil => .nil
  | n + 1, _, _, .cons _ r => r.drop
theorem RvL.take {F : Hp} : ∀ {n : Nat} {us : List V} {es : List PyData}, RvL F us es → RvL F (us.take n) (es.take n)
  | 0, _, _, _ => .nil
  | n + 1, _, _, .nil => .nil
  | n + 1, _, _, .cons a r => .cons a r.take
theorem RvL.cut {F : Hp} {us : List V} {es : List PyData} {lo hi : Option Int} (r : RvL F us es) : RvL F (cutV us lo hi) (Tf.cut es lo hi) := by
  unfold cutV Tf.cut
  rw [r.length]
  exact r.drop.take
theorem RvL.rep {F : Hp} {us : List V} {es : List PyData} (r : RvL F us es) : ∀ n : Nat, RvL F (List.replicate n us).flatten (List.replicate n es).flatten
  | 0 => .nil
  | n + 1 => by
    rw [List.replicate_succ, List.replicate_succ, List.flatten_cons, List.flatten_cons]
    exact r.app (r.rep n)
/-- list(text) -/
def rListS : List V → Hp → VK → Prop := fun vs H Q => ∃ x : Str, vs = [.str x] ∧ x.cps.size ≤ sizeLine ∧ ∀ q, H q = none → Q (.ref q) (upd H q (.lst ((signs x).map V.str)))
theorem call_listS {X : Cx} (hc : X.calm = true) : CallR X (.type "list") rListS := by
  intro pins s σ H vs us Q I r h
  obtain ⟨x, rfl, hz, q⟩ := h
  obtain ⟨u, rfl, t, rfl⟩ := vals1 r
  refine call_list_str (I.ok.hd hc) x t (fun h' tk acc c' hk e hi => ?_) hz
  have hl : ((signs x).map V.str).length = x.cps.size := by rw [List.length_map, signs_length]; rfl
  refine ⟨.ref s.heap.objs.size, upd H s.heap.objs.size (.lst ((signs x).map V.str)), I.laid hk (Nat.le_refl _) ⟨by rw [hl]; exact hz, acc.toList, c', ?_, by rw [Array.toArray_toList]; exact e⟩, rfl, q _ (I.hok.fresh (Nat.le_refl _))⟩
  refine vals_of_idx _ _ (by rw [hl, Array.length_toList]; exact hi.1) fun j u hj => ?_
  obtain ⟨c, t', hc, rfl⟩ := hi.2 j u (by rw [← Array.getElem?_toList]; exact hj)
  refine ⟨.str ⟨#[c]⟩, ?_, ⟨_, rfl⟩⟩
  unfold signs
  rw [List.getElem?_map, List.getElem?_map, Array.getElem?_toList, hc]
  rfl
def rListV (K : PySem.W.Frag) : List V → Hp → VK → Prop := fun vs H Q => rListU K vs H Q ∨ rListS vs H Q
theorem ucall_listV {X : Cx} (hc : X.calm = true) : CallR X (.type "list") (rListV X.K) := (ucall_list hc).or (call_listS hc)
def rTupU (K : PySem.W.Frag) : List V → Hp → VK → Prop := fun xs H Q => ∃ p ys, xs = [.ref p] ∧ ((SqL K H p ys ∧ ∀ l, H l = none → Q (.ref l) (upd H l (.tup ys))) ∨ (SqT K H p ys ∧ Q (.ref p) H))
theorem ucall_tupleK {X : Cx} (K : PySem.W.Frag) (hK : X.K = K := by rfl) : CallR X (.type "tuple") (rTupU K) := hK ▸ ucall_tuple
def Eo (T : List (Addr × Str)) (Δ : List Sl) (to : TO) (o : Option Int) : Prop := ∀ (σ : St) (F : Hp), Sh F σ Δ → ∀ H, Sub F H → LamX.Tabs T H → ∀ Q : Option Int → Hp → Prop, (∀ H', Step T F F H H' → Q o H') → to σ H Q
section
variable {T : List (Addr × Str)} {α β γ ν : Type} {Γ Δ : List Sl} {te ta tb tc : TE} {tr : TA} {tt : TT} {K : PySem.W.Frag} {e : PyData} {es : List PyData} {tl th : TO} {lo hi : Option Int}
theorem eo_none : Eo T Δ tNoPart none := fun σ F s H su t Q q => q H (.refl su t)
theorem eo_some {i : Int} (h : Ex T Δ te (d i)) : Eo T Δ (tPart te) (some i) := fun σ F s H su t Q q => h σ F s H su t _ fun v F' H' st r => ⟨i, rv_int r, q H' st.keep⟩
theorem exN_slice {_ : Dt α} {xs : List α} (h : Ex T Δ te (d xs)) (h1 : Eo T Δ tl lo) (h2 : Eo T Δ th hi) : ExN T Δ (tSl (rSlU K) te tl th) (d (cut xs lo hi)) := fun σ F s H su t Q q => h σ F s H su t _ fun v F1 H1 s1 r => h1 σ F1 (s.mono s1.ff) H1 s1.sub s1.tab _ fun H2 s2 => h2 σ F1 (s.mono s1.ff) H2 s2.sub s2.tab _ fun H3 s3 => by
  obtain ⟨p, us, rfl, a, b⟩ := rv_list r
  refine .inl ⟨p, us, rfl, SqL.of (s3.sub _ _ a).1, fun l hl => ?_⟩
  have sm := Step.made (o := .lst (cutV us lo hi)) s3.sub s3.tab hl nt_lst
  have st := ((s1.trans s2).trans s3).trans sm
  have z : Rv (upd F1 l (.lst (cutV us lo hi))) (.ref l) (.list (cut (xs.map d) lo hi)) := .lst upd_same (b.cut.mono sm.ff)
  rw [← cut_map] at z
  exact q _ _ _ st z fun p e => by
    cases e
    exact ((s1.trans s2).trans s3).ext.live _ hl
theorem ex_sliceS {x : Str} (h : Ex T Δ te (d x)) (h1 : Eo T Δ tl lo) (h2 : Eo T Δ th hi) (hz : x.length ≤ 1000) : Ex T Δ (tSl (rSlU K) te tl th) (d (cutS x lo hi)) := fun σ F s H su t Q q => h σ F s H su t _ fun v F1 H1 s1 r => h1 σ F1 (s.mono s1.ff) H1 s1.sub s1.tab _ fun H2 s2 => h2 σ F1 (s.mono s1.ff) H2 s2.sub s2.tab _ fun H3 s3 =>
  .inr ⟨x, rv_str r, Nat.le_trans hz (by decide), q _ F1 H3 ((s1.trans s2).trans s3) (.str _)⟩
theorem cutS_txt {bs : List Bool} : cutS (txt bs) lo hi = txt (cut bs lo hi) := by
  unfold cutS txt
  rw [cut_map]
  unfold cut
  simp [Str.length]
theorem ex_sliceR {r : Row} (h : Ex T Δ te (d r)) (h1 : Eo T Δ tl lo) (h2 : Eo T Δ th hi) (hz : r.bs.length ≤ 1000) : Ex T Δ (tSl (rSlU K) te tl th) (d (⟨cut r.bs lo hi⟩ : Row)) :=
  ex_eq (ex_sliceS (x := txt r.bs) h h1 h2 (by rw [txt_len]; exact hz)) (by rw [cutS_txt]; rfl)
theorem ex_catS {x y : Str} (ha : Ex T Δ ta (d x)) (hb : Ex T Δ tb (d y)) (hl : x.length + y.length ≤ 1000000) : Ex T Δ (tOp rAddU ta tb) (d (x ++ y)) := .of fun _ _ s => ev_pure (ha.at s) (hb.at s) fun u w F1 H1 Q _ r1 r2 q => .inr (.inl ⟨x, y, rv_str r1, rv_str r2, Nat.le_trans hl (by decide), q _ fun _ => .str _⟩)
def rep {α : Type} (xs : List α) (n : Int) : List α := (List.replicate n.toNat xs).flatten
theorem rep_length {α : Type} (xs : List α) (n : Int) : (rep xs n).length = n.toNat * xs.length := by
  unfold rep
  simp
theorem rep_map {α β : Type} (f : α → β) (xs : List α) (n : Int) : (rep xs n).map f = rep (xs.map f) n := by
  unfold rep
  rw [List.map_flatten, List.map_replicate]
theorem exN_rep {_ : Dt α} {xs : List α} {n : Int} (ha : Ex T Δ ta (d xs)) (hb : Ex T Δ tb (d n)) (h : (n ≤ 1000 ∧ -1000 ≤ n) ∧ xs.length ≤ 1000) : ExN T Δ (tOp rMulU ta tb) (d (rep xs n)) := fun σ F s H su t Q q => ha σ F s H su t _ fun v F1 H1 s1 r => hb σ F1 (s.mono s1.ff) H1 s1.sub s1.tab _ fun w F2 H2 s2 r2 => by
  obtain ⟨p, us, rfl, a, b⟩ := rv_list r
  have l := b.length
  rw [List.length_map] at l
  have st := s1.trans s2
  refine .inr (.inr ⟨p, n, us, rfl, rv_int r2, (s2.sub _ _ (s2.ff _ _ a)).1, by omega, by omega, ?_, fun q' hq => ?_⟩)
  · have h1 : n.toNat ≤ 1000 := by omega
    exact Nat.le_trans (Nat.mul_le_mul (show us.length ≤ 1000 by omega) h1) (by decide)
  · have sm := Step.made (o := .lst (List.replicate n.toNat us).flatten) s2.sub s2.tab hq nt_lst
    have z : Rv (upd F2 q' (.lst (List.replicate n.toNat us).flatten)) (.ref q') (.list (rep (xs.map d) n)) := .lst upd_same (((b.mono s2.ff).mono sm.ff).rep _)
    rw [← rep_map] at z
    exact q _ _ _ (st.trans sm) z fun p e => by
      cases e
      exact st.ext.live _ hq
theorem ex_mulS {x : Str} {n : Int} (ha : Ex T Δ ta (d x)) (hb : Ex T Δ tb (d n)) (h : (n ≤ 4096 ∧ -(2 ^ 63) ≤ n) ∧ x.length ≤ 4096) : Ex T Δ (tOp rMulU ta tb) (d (Txt.mul x n)) := .of fun _ _ s => ev_pure (ha.at s) (hb.at s) fun u w F1 H1 Q _ r1 r2 q => .inr (.inl ⟨x, n, rv_str r1, rv_int r2, h.2, h.1.1, h.1.2, q _ fun _ => .str _⟩)
theorem mul_txts (bs : List Bool) (n : Int) : Txt.mul (txt bs) n = txt (rep bs n) := by
  unfold Txt.mul
  by_cases h : n < 1
  · rw [if_pos h]
    have : n.toNat = 0 := by omega
    unfold rep
    rw [this]
    rfl
  · rw [if_neg h]
    by_cases h1 : n = 1
    · subst h1
      show (if (true || _) = true then _ else _) = _
      simp [rep]
    · have en : (n == 1) = false := by simp [h1]
      rw [en]
      by_cases h2 : bs = []
      · subst h2
        show (if (false || true) = true then _ else _) = _
        simp only [Bool.false_or, if_true]
        unfold rep
        have : (List.replicate n.toNat ([] : List Bool)).flatten = [] := by simp
        rw [this]
      · have e : ((txt bs).length == 0) = false := by
          rw [txt_len]
          simp [h2]
        rw [e]
        simp only [Bool.or_self, Bool.false_eq_true, if_false]
        have z := fold_rep (bs.map sg) n.toNat #[]
        show Str.mk ((List.replicate n.toNat (bs.map sg).toArray).foldl (· ++ ·) #[]) = _
        rw [z]
        unfold rep txt
        simp [List.map_flatten]
theorem ex_mulRs {r : Row} {n : Int} (ha : Ex T Δ ta (d r)) (hb : Ex T Δ tb (d n)) (h : (n ≤ 4096 ∧ -(2 ^ 63) ≤ n) ∧ r.bs.length ≤ 4096) : Ex T Δ (tOp rMulU ta tb) (d (⟨rep r.bs n⟩ : Row)) :=
  ex_eq (ex_mulS (x := txt r.bs) ha hb ⟨h.1, by rw [txt_len]; exact h.2⟩) (by rw [mul_txts]; rfl)
theorem exN_listV {_ : Dt α} {xs : List α} (h : Ex T Δ te (d xs)) : ExN T Δ (tCB (rListV K) (tCons te tNil)) (d xs) := fun σ F s H su t Q q => by
  have z := (exN_listOf (K := K) h) σ F s H su t Q q
  revert z
  show (te σ H fun x H1 => rListU K [x] H1 Q) → te σ H fun x H1 => rListV K [x] H1 Q
  intro _
  exact h σ F s H su t _ fun v F1 H1 st r => by
    obtain ⟨p, us, rfl, a, b⟩ := rv_list r
    refine .inl (.inl ⟨p, us, rfl, .inl (SqL.of (st.sub _ _ a).1), fun l hl => ?_⟩)
    have s2 := Step.made (o := .lst us) st.sub st.tab hl nt_lst
    exact q _ _ _ (st.trans s2) (.lst upd_same (b.mono s2.ff)) fun p e => by
      cases e
      exact st.ext.live _ hl
theorem ex_keysV {_ : Dt ν} {D : Dc ν} (h : Ex T Δ te (d D)) : Ex T Δ (tCB (rListV K) (tCons te tNil)) (d D.keys) := fun σ F s H su t Q q => h σ F s H su t _ fun v F1 H1 st r =>
  .inl (ev_dKeys (K := K) (te := tC v) (F := F1) (σ := σ) (D := D) (fun H s t Q q => q v F1 H (.refl s t) r) H1 st.sub st.tab Q fun v' F' H' st2 r2 => q v' F' H' (st.trans st2) r2)
theorem exN_listS {x : Str} (h : Ex T Δ te (d x)) (hz : x.length ≤ 1000) : ExN T Δ (tCB (rListV K) (tCons te tNil)) (d (signs x)) := fun σ F s H su t Q q => h σ F s H su t _ fun v F1 H1 st r => .inr ⟨x, by rw [rv_str r], Nat.le_trans hz (by decide), fun l hl => by
  have s2 := Step.made (o := .lst ((signs x).map V.str)) st.sub st.tab hl nt_lst
  have rl : ∀ (G : Hp) (zs : List Str), RvL G (zs.map V.str) (zs.map d) := fun G zs => by
    induction zs with
    | nil => exact .nil
    | cons a zs ih => exact .cons (.str _) ih
  exact q _ _ _ (st.trans s2) (.lst upd_same (rl _ _)) fun p e => by
    cases e
    exact st.ext.live _ hl⟩
theorem ex_tupleOf {_ : Dt α} {xs : List α} (h : Ex T Δ te (d xs)) : Ex T Δ (tCB (rTupU K) (tCons te tNil)) (.tuple (xs.map d)) := fun σ F s H su t Q q => h σ F s H su t _ fun v F1 H1 st r => by
  obtain ⟨p, us, rfl, a, b⟩ := rv_list r
  refine ⟨p, us, rfl, .inl ⟨SqL.of (st.sub _ _ a).1, fun l hl => ?_⟩⟩
  have s2 := Step.made (o := .tup us) st.sub st.tab hl nt_tup
  exact q _ _ _ (st.trans s2) (.tup upd_same (b.mono s2.ff))
theorem ex_joinS {x : Str} {rs : List Row} (ha : Ex T Δ ta (d x)) (h : Ex T Δ te (d rs)) (hz : (rs.map fun r => r.bs.length).sum + rs.length * x.length ≤ 1000000) : Ex T Δ (tM1 (rJoin K) ta te) (d (Txt.join x (rtexts rs))) := fun σ F s H su t Q q => ha σ F s H su t _ fun u F0 H0 s0 r0 => by
  refine ⟨⟨_, rv_str r0⟩, h σ F0 (s.mono s0.ff) H0 s0.sub s0.tab _ fun v F1 H1 st r => ?_⟩
  obtain ⟨p, us, rfl, a, b⟩ := rv_list r
  rw [rvl_rows b] at a
  refine ⟨x, p, rs.map fun r => txt r.bs, rv_str r0, rfl, .inl (SqL.of (st.sub _ _ a).1), ?_, q _ F1 H1 (s0.trans st) (.str _)⟩
  have e2 : ((rs.map fun r => txt r.bs).map fun x : Str => x.length) = rs.map fun r => r.bs.length := by
    rw [List.map_map]
    exact List.map_congr_left fun r _ => txt_len _
  rw [e2, List.length_map]
  omega
theorem rvl_strs {F : Hp} : ∀ {us : List V} {xs : List Str}, RvL F us (xs.map d) → us = xs.map V.str
  | _, [], h => by
    cases h
    rfl
  | _, x :: xs, h => by
    cases h with
    | cons a m => rw [rvl_strs m, rv_str a]; rfl
theorem ex_joinSS {x : Str} {ys : List Str} (ha : Ex T Δ ta (d x)) (h : Ex T Δ te (d ys)) (hz : (ys.map fun y => y.length).sum + ys.length * x.length ≤ 1000000) : Ex T Δ (tM1 (rJoin K) ta te) (d (Txt.join x ys)) := fun σ F s H su t Q q => ha σ F s H su t _ fun u F0 H0 s0 r0 => by
  refine ⟨⟨_, rv_str r0⟩, h σ F0 (s.mono s0.ff) H0 s0.sub s0.tab _ fun v F1 H1 st r => ?_⟩
  obtain ⟨p, us, rfl, a, b⟩ := rv_list r
  rw [rvl_strs b] at a
  exact ⟨x, p, ys, rv_str r0, rfl, .inl (SqL.of (st.sub _ _ a).1), Nat.le_trans hz (by decide), q _ F1 H1 (s0.trans st) (.str _)⟩
theorem sum_le {α : Type} {f : α → Nat} {m : Nat} : ∀ {l : List α}, (∀ x ∈ l, f x ≤ m) → (l.map f).sum ≤ l.length * m
  | [], _ => by simp
  | x :: l, h => by
    have a := sum_le (l := l) fun y hy => h y (List.mem_cons_of_mem _ hy)
    have b := h x List.mem_cons_self
    rw [List.map_cons, List.sum_cons, List.length_cons, Nat.succ_mul]
    omega
end
end Tf

/-! Defs that write an own thing that is handed in; get of a dict. -/
namespace Tf
open PySem PySem.Spec PyProof.Rows L2 Dt
/-- a def that writes the thing at its argument j: post tells, by the other arguments and the thing, what the thing may be then and what may be told -/
def PuM (T : List (Addr × Str)) (j : Nat) (n : Bool) (pre : List PyData → PyData → Prop) (post : List PyData → PyData → PyData → PyData → Prop) : Sp := fun vs H Q _ => ∃ (F : Hp) (p : Addr) (ws : List V) (es : List PyData) (e : PyData), vs = ws.take j ++ .ref p :: ws.drop j ∧ j ≤ ws.length ∧ Sub F H ∧ LamX.Tabs T H ∧ RvL F ws es ∧ F p = none ∧ OwnX F H p e ∧ pre es e ∧
  ∀ e' r, post es e e' r → ∀ v F' H', Step T F F' (erase H p) H' → F' p = none → OwnX F' H' p e' → Rv F' v r → (n = true → ∀ q, v = .ref q → H q = none ∧ q ≠ p) → Q v H'
/-- what is at p may be written: its items are reached by no write -/
def flat : PyData → Bool
  | .list es => immAll es
  | .dict kvs => kvs.all fun x => imm x.2
  | _ => false
section
variable {T : List (Addr × Str)} {α β γ ν : Type} {F0 H0 F H F' H' G F3 H2 : Hp} {σ σ' : St} {Γ Γ' Δ : List Sl} {te ta tb : TE} {tr : TA} {tt c : TT} {t u tbd : TS} {g : TG} {K : PySem.W.Frag} {E : XK} {e e' r : PyData} {es : List PyData} {D : Ends} {R R' : Out → Prop} {i j k : Nat} {p : Addr} {n m : Bool} {pre : List PyData → PyData → Prop} {post : List PyData → PyData → PyData → PyData → Prop} {Post : List Sl → PyData → Prop}
theorem step_erase (s : Sub F H) (t : LamX.Tabs T H) (hp : F p = none) : Step T F F (erase H p) H := ⟨Same.refl F, s, ⟨fun a o h _ => by
  by_cases z : a = p
  · rw [z, erase_same] at h
    cases h
  · rw [erase_ne z] at h
    exact h, fun a h => by
  by_cases z : a = p
  · rw [z, erase_same]
  · rw [erase_ne z]
    exact h⟩, fun _ h _ => h, t⟩
theorem wr_erase {a : Addr} (w : Wr (erase H p) a) : a ≠ p ∧ Wr H a := by
  obtain ⟨o, h1, h2, h3⟩ := w
  by_cases z : a = p
  · rw [z, erase_same] at h1
    cases h1
  · rw [erase_ne z] at h1
    exact ⟨z, o, h1, h2, h3⟩
theorem wr_erase' {a : Addr} (z : a ≠ p) (w : Wr H a) : Wr (erase H p) a := by
  obtain ⟨o, h1, h2, h3⟩ := w
  exact ⟨o, by rw [erase_ne z]; exact h1, h2, h3⟩
/-- the thing at slot i was written elsewhere -/
theorem Ok.written (o : Ok T F0 H0 F H σ Γ) (h : Γ[i]? = some (Sl.ow p e)) (s : Step T F F3 (erase H p) H2) (f3 : F3 p = none) (w : OwnX F3 H2 p e') : Ok T F0 H0 F3 H2 σ (Γ.set i (.ow p e')) := by
  obtain ⟨h1, h2, h3, h4⟩ := o.ow i p e h
  have big : ∀ {a : Addr} {x : HO}, a ≠ p → H a = some x → notTbl x → H2 a = some x := fun {a x} z q nt => s.ext.keep a x (by rw [erase_ne z]; exact q) nt
  refine ⟨⟨o.st.ff.trans s.ff, s.sub, ⟨fun a x q nt => ?_, fun a q => ?_⟩, fun a z1 z2 => ?_, s.tab⟩, by simp [o.len], fun j e2 q => ?_, fun j q e2 z => ?_, fun j w q => ?_, fun j K' ns q => ?_, fun j k q e1 e2 q1 q2 => ?_⟩
  · have na : a ≠ p := fun z => by
      rw [z, h3] at q
      cases q
    exact big na (o.st.ext.keep a x q nt) nt
  · have z := s.ext.live a q
    by_cases y : a = p
    · rw [y]
      exact h3
    · rw [erase_ne y] at z
      exact o.st.ext.live a z
  · have na : a ≠ p := fun y => z2.some (by rw [y]; exact h3)
    exact s.new a (o.st.new a z1 z2) (wr_erase' na (z2.ext o.st.ext))
  · rcases get_set q with ⟨rfl, hl, z⟩ | ⟨n, z⟩
    · cases z
    · obtain ⟨v, g1, g2⟩ := o.sh j e2 z
      exact ⟨v, g1, g2.mono s.ff⟩
  · rcases get_set z with ⟨rfl, hl, z⟩ | ⟨n, z⟩
    · cases z
      exact ⟨h1, f3, h3, w⟩
    · obtain ⟨k1, k2, k3, k4⟩ := o.ow j q e2 z
      have nq : q ≠ p := fun y => n (o.ne i j p e e2 h (by rw [← y]; exact z))
      exact ⟨k1, s.new q k2 (wr_erase' nq k4.wr), k3, (k4.mono s.ff).at_ fun x a nt => big nq a nt⟩
  · rcases get_set q with ⟨rfl, hl, z⟩ | ⟨n, z⟩
    · cases z
    · exact o.raw j w z
  · rcases get_set q with ⟨rfl, hl, z⟩ | ⟨n, z⟩
    · cases z
    · obtain ⟨v, g1, g2⟩ := o.sc j K' ns z
      exact ⟨v, g1, g2.mono s.ff⟩
  · rcases get_set q1 with ⟨rfl, hl, z1⟩ | ⟨n1, z1⟩
    · cases z1
      rcases get_set q2 with ⟨y, hl, z2⟩ | ⟨n2, z2⟩
      · exact y
      · exact absurd (o.ne _ k p e e2 h z2) n2
    · rcases get_set q2 with ⟨rfl, hl, z2⟩ | ⟨n2, z2⟩
      · cases z2
        exact absurd (o.ne _ j p e e1 h z1) n1
      · exact o.ne j k q e1 e2 z1 z2
theorem OwnX.flat {F2 : Hp} (ti : TupIn F2 F3) (w : OwnX F2 H2 p e') (f : Tf.flat e' = true) : OwnX F3 H2 p e' := by
  cases w with
  | lst a r => exact .lst a (r.imm ti f)
  | @dic ks us es a l r =>
    refine .dic a l (r.imm ti ?_)
    have f' : (((ks.map keyD).zip es).all fun x => imm x.2) = true := f
    have le : ks.length = es.length := l.trans r.length
    clear a l r f
    induction ks generalizing es with
    | nil =>
      cases es with
      | nil => rfl
      | cons => simp at le
    | cons k ks ih =>
      cases es with
      | nil => simp at le
      | cons e es =>
        simp only [List.map_cons, List.zip_cons_cons, List.all_cons, Bool.and_eq_true] at f'
        simp only [immAll, Bool.and_eq_true]
        exact ⟨f'.1, ih f'.2 (by simpa using le)⟩
/-- te may give r while the slots are Γ' then, where Post says so -/
def Em (T : List (Addr × Str)) (Γ : List Sl) (te : TE) (Post : List Sl → PyData → Prop) : Prop := ∀ (F0 H0 F H : Hp) (σ : St), Ok T F0 H0 F H σ Γ → ∀ Q : VK, (∀ Γ' r v F' H', Post Γ' r → Same F F' → Ok T F0 H0 F' H' σ Γ' → Rv F' v r → Q v H') → te σ H Q
/-- what a def that writes slot i's thing leaves -/
def after (Γ : List Sl) (i : Nat) (p : Addr) (es : List PyData) (e : PyData) (post : List PyData → PyData → PyData → PyData → Prop) : List Sl → PyData → Prop := fun Γ' r => ∃ e', Γ' = Γ.set i (.ow p e') ∧ post es e e' r
/-- how a told value stays when what is written here is hidden: no write reaches it, or it is a new list of such -/
def tame (n : Bool) : PyData → Bool
  | .list es => n && immAll es
  | e => imm e
theorem Rv.tame {F2 : Hp} {v : V} (ti : TupIn F2 F3) (h : Rv F2 v r) (f : Tf.tame n r = true) (q : n = true → ∀ a us, v = .ref a → F2 a = some (.lst us) → F3 a = some (.lst us)) : Rv F3 v r := by
  cases h with
  | non => exact .non
  | bl b => exact .bl b
  | int b => exact .int b
  | str b => exact .str b
  | lst a r =>
    have f' : (n && immAll _) = true := f
    rw [Bool.and_eq_true] at f'
    exact .lst (q f'.1 _ _ rfl a) (r.imm ti f'.2)
  | tup a r => exact Rv.imm ti f (.tup a r)
  | emp a => exact Rv.imm ti f (.emp a)
  | dic a l r => exact Rv.imm ti f (.dic a l r)
  | obj a l r => exact Rv.imm ti f (.obj a l r)
theorem em_core {X : XK} {ws : List V} (h : Γ[i]? = some (Sl.ow p e)) (ft : ∀ e' r, post es e e' r → flat e' = true ∧ tame n r = true) (Pj : pre es e) (o : Ok T F0 H0 F H σ Γ) {G' H1 : Hp} (s1 : Step T (seeF (Γ.set i .no) F H) G' H H1) (rw_ : RvL G' ws es) (hj : j ≤ ws.length) {Q : VK}
    (q : ∀ Γ' r v F' H', after Γ i p es e post Γ' r → Same F F' → Ok T F0 H0 F' H' σ Γ' → Rv F' v r → Q v H') : PuM T j n pre post (ws.take j ++ .ref p :: ws.drop j) H1 Q X := by
  obtain ⟨h1, h2, h3, h4⟩ := o.ow i p e h
  have oi : Ok T F0 H0 F H (σ.set i none) (Γ.set i .no) := o.forget
  have np : ¬ IsOw (Γ.set i .no) p := fun ⟨j, e2, z⟩ => by
    rcases get_set z with ⟨_, _, y⟩ | ⟨n, y⟩
    · cases y
    · exact n (o.ne i j p e e2 h y)
  have G0 : seeF (Γ.set i .no) F H p = none := by rw [seeF_no np]; exact h2
  have gp : G' p = none := s1.new p G0 h4.wr
  have ow1 : OwnX G' H1 p e := ((h4.mono oi.seeSame).mono s1.ff).at_ fun u a nt => s1.ext.keep p u a nt
  refine ⟨G', p, ws, es, e, rfl, hj, s1.sub, s1.tab, rw_, gp, ow1, Pj, fun e' r hpost v F2 H2 s2 f2 w2 rv nw => ?_⟩
  obtain ⟨fl, tm⟩ := ft e' r hpost
  have hn : H1 p ≠ none := ow1.wr.some
  -- the frame without what is written here
  have ti : TupIn F2 (hideF (Γ.set i .no) F2) := fun a us z => by
    have nn : ¬ IsOw (Γ.set i .no) a := fun ⟨j, e2, y⟩ => by
      obtain ⟨u, g1, g2, g3, _⟩ := (oi.ow j a e2 y).2.2.2.obj
      have y2 := s2.ff a u (s1.ff a u (by rw [seeF_ow ⟨j, e2, y⟩]; exact g1))
      rw [z] at y2
      cases y2
      exact g3 us rfl
    rw [hideF_no nn]
    exact z
  have st : Step T F (hideF (Γ.set i .no) F2) (erase H p) H2 := by
    refine ⟨fun a x z => ?_, fun a x z => ?_, ⟨fun a x z nt => ?_, fun a z => ?_⟩, fun a z1 z2 => ?_, s2.tab⟩
    · have nn := oi.not_ow z
      rw [hideF_no nn]
      exact s2.ff a x (s1.ff a x (by rw [seeF_no nn]; exact z))
    · by_cases w : IsOw (Γ.set i .no) a
      · rw [hideF_ow w] at z
        cases z
      · rw [hideF_no w] at z
        exact s2.sub a x z
    · by_cases y : a = p
      · rw [y, erase_same] at z
        cases z
      · rw [erase_ne y] at z
        exact s2.ext.keep a x (by rw [erase_ne y]; exact s1.ext.keep a x z nt) nt
    · have y := s2.ext.live a z
      by_cases q : a = p
      · rw [q, erase_same]
      · rw [erase_ne q] at y ⊢
        exact s1.ext.live a y
    · obtain ⟨y1, y2⟩ := wr_erase z2
      by_cases w : IsOw (Γ.set i .no) a
      · exact hideF_ow w
      · rw [hideF_no w]
        exact s2.new a (s1.new a (by rw [seeF_no w]; exact z1) y2) (wr_erase' y1 (y2.ext s1.ext))
  have f3 : hideF (Γ.set i .no) F2 p = none := by rw [hideF_no np]; exact f2
  refine q _ r v _ H2 ⟨e', rfl, hpost⟩ st.ff (o.written h st f3 (w2.flat ti fl)) (rv.tame ti tm fun hn a us ev z => ?_)
  have na : ¬ IsOw (Γ.set i .no) a := fun ⟨j, e2, y⟩ => by
    have w := (oi.ow j a e2 y).2.2.2.wr
    exact (w.ext s1.ext).some (nw hn a ev).1
  rw [hideF_no na]
  exact z
/-- f(own, ..) -/
theorem em_call0 {X : XK} (h : Γ[i]? = some (Sl.ow p e)) (ha : Ea T (see (Γ.set i .no)) tr es) (Pj : pre es e) (ft : ∀ e' r, post es e e' r → flat e' = true ∧ tame n r = true) : Em T Γ (tCall (PuM T 0 n pre post) [] X (tCons (tVar i) tr)) (after Γ i p es e post) := fun F0 H0 F H σ o Q q => by
  obtain ⟨h1, h2, h3, h4⟩ := o.ow i p e h
  have oi : Ok T F0 H0 F H σ (Γ.set i .no) := o.less ⟨by simp, fun j s z => by
    rcases get_set z with ⟨_, _, y⟩ | ⟨n, y⟩
    · exact .inl y
    · exact .inr y⟩
  refine ⟨_, h1, ha σ _ oi.toSee H oi.seeSub o.st.tab _ fun ws G' H1 s1 rw_ => ?_⟩
  have z := em_core (X := X) (j := 0) (ws := ws) h ft Pj o s1 rw_ (Nat.zero_le _) q
  show PuM T 0 n pre post ((.ref p :: ws) ++ []) H1 Q X
  rw [List.append_nil]
  exact z
/-- f(x, own, ..) -/
theorem em_call1 {X : XK} {x : PyData} (h : Γ[i]? = some (Sl.ow p e)) (hx : Ex T (see (Γ.set i .no)) ta x) (ha : Ea T (see (Γ.set i .no)) tr es) (Pj : pre (x :: es) e) (ft : ∀ e' r, post (x :: es) e e' r → flat e' = true ∧ tame n r = true) : Em T Γ (tCall (PuM T 1 n pre post) [] X (tCons ta (tCons (tVar i) tr))) (after Γ i p (x :: es) e post) := fun F0 H0 F H σ o Q q => by
  obtain ⟨h1, h2, h3, h4⟩ := o.ow i p e h
  have oi : Ok T F0 H0 F H σ (Γ.set i .no) := o.less ⟨by simp, fun j s z => by
    rcases get_set z with ⟨_, _, y⟩ | ⟨n, y⟩
    · exact .inl y
    · exact .inr y⟩
  refine hx σ _ oi.toSee H oi.seeSub o.st.tab _ fun v G1 H1 s1 rv => ⟨_, h1, ha σ G1 (oi.toSee.mono s1.ff) H1 s1.sub s1.tab _ fun ws G' H2 s2 rw_ => ?_⟩
  have z := em_core (X := X) (j := 1) (ws := v :: ws) h ft Pj o (s1.trans s2) (.cons (rv.mono s2.ff) rw_) (Nat.succ_le_succ (Nat.zero_le _)) q
  show PuM T 1 n pre post ((v :: .ref p :: ws) ++ []) H2 Q X
  rw [List.append_nil]
  exact z
theorem r_dropM (h : Em T Γ te Post) (k : ∀ Γ' r, Post Γ' r → R (.nx Γ')) : Run T K E Γ (tDrop te) R := fun F0 H0 F H σ D o f => h F0 H0 F H σ o _ fun Γ' r v F' H' hp l o' _ => f.nx _ _ F' H' (k Γ' r hp) l o'
theorem r_asgM (h : Em T Γ te Post) (k : ∀ Γ' r, Post Γ' r → R (.nx (Γ'.set i (.sh r)))) : Run T K E Γ (tAsg te (gName i)) R := fun F0 H0 F H σ D o f => h F0 H0 F H σ o _ fun Γ' r v F' H' hp l o' rv => f.nx _ _ F' H' (k Γ' r hp) l (o'.set rv)
theorem r_ifM (h : Em T Γ te Post) (k : ∀ Γ' r, Post Γ' r → ∃ b : Bool, r = d b ∧ (b = true → Run T K E Γ' t R) ∧ (b = false → Run T K E Γ' u R)) : Run T K E Γ (tIfS (tTr K te) t u) R := fun F0 H0 F H σ D o f => h F0 H0 F H σ o _ fun Γ' r v F' H' hp l o' rv => by
  obtain ⟨b, rfl, h1, h2⟩ := k Γ' r hp
  refine ⟨b, by cases rv_bool rv; rfl, ?_⟩
  cases b with
  | true => exact h1 rfl F0 H0 F' H' σ D o' (f.shift l)
  | false => exact h2 rfl F0 H0 F' H' σ D o' (f.shift l)
/-! ### the body of such a def -/
def resM (j : Nat) (p : Addr) (n : Bool) (post : PyData → PyData → Prop) : Out → Prop
  | .nx Γ => ∃ e', post e' .none ∧ Γ[j]? = some (Sl.ow p e')
  | .rt m r Γ => ∃ e', post e' r ∧ Γ[j]? = some (Sl.ow p e') ∧ (n = true → m = true)
  | _ => False
theorem run_puM {N : List Str} {vs : List V} {Q : VK} (k a : Nat) (h : PuM T j n pre post vs H Q E) (ha : ∀ es e, pre es e → es.length = a) (hN : N.length = a + 1 + k)
    (run : ∀ es e p, pre es e → Run T K E ((es.take j).map Sl.sh ++ Sl.ow p e :: ((es.drop j).map Sl.sh ++ List.replicate k .no)) t (resM j p n (post es e))) : t { nx := fun _ H' => Q .non H', rt := Q } (L2.start N vs) H := by
  obtain ⟨F, p, ws, es, e, rfl, hj, s, tb, rv, fp, w, hP, q⟩ := h
  have la := ha _ _ hP
  have lw := rv.length
  have st := step_erase s tb fp
  have get : ∀ (i : Nat) (x : Sl), ((es.take j).map Sl.sh ++ Sl.ow p e :: ((es.drop j).map Sl.sh ++ List.replicate k .no))[i]? = some x → x = .no ∨ (i = j ∧ x = .ow p e ∧ (L2.start N (ws.take j ++ .ref p :: ws.drop j))[i]? = some (some (.ref p))) ∨ ∃ e v, x = .sh e ∧ (L2.start N (ws.take j ++ .ref p :: ws.drop j))[i]? = some (some v) ∧ Rv F v e := fun i x z => by
    have l1 : ((es.take j).map Sl.sh).length = j := by rw [List.length_map, List.length_take]; omega
    have l2 : (ws.take j).length = j := by rw [List.length_take]; omega
    unfold L2.start
    rw [List.map_append, List.map_cons, List.append_assoc]
    rcases Nat.lt_trichotomy i j with y | y | y
    · rw [List.getElem?_append_left (by omega), List.getElem?_map, List.getElem?_take_of_lt y, List.getElem?_eq_getElem (by omega)] at z
      obtain ⟨u, g1, g2⟩ := rv.get (List.getElem?_eq_getElem (show i < es.length by omega))
      simp only [Option.map_some, Option.some.injEq] at z
      refine .inr (.inr ⟨_, u, z.symm, ?_, g2⟩)
      rw [List.getElem?_append_left (by rw [List.length_map]; omega), List.getElem?_map, List.getElem?_take_of_lt y, g1]
      rfl
    · subst y
      rw [List.getElem?_append_right (by omega), l1, Nat.sub_self] at z
      refine .inr (.inl ⟨rfl, (Option.some.inj z).symm, ?_⟩)
      rw [List.getElem?_append_right (by rw [List.length_map]; omega), List.length_map, l2, Nat.sub_self]
      rfl
    · rw [List.getElem?_append_right (by omega), l1] at z
      obtain ⟨m, rfl⟩ : ∃ m, i = j + 1 + m := ⟨i - j - 1, by omega⟩
      have e1 : j + 1 + m - j = m + 1 := by omega
      rw [e1, List.getElem?_cons_succ] at z
      by_cases hm : m < es.length - j
      · rw [List.getElem?_append_left (by rw [List.length_map, List.length_drop]; exact hm), List.getElem?_map, List.getElem?_drop, List.getElem?_eq_getElem (by omega)] at z
        obtain ⟨u, g1, g2⟩ := rv.get (List.getElem?_eq_getElem (show j + m < es.length by omega))
        simp only [Option.map_some, Option.some.injEq] at z
        refine .inr (.inr ⟨_, u, z.symm, ?_, g2⟩)
        rw [List.getElem?_append_right (by rw [List.length_map]; omega), List.length_map, l2, e1, List.cons_append, List.getElem?_cons_succ, List.getElem?_append_left (by rw [List.length_map, List.length_drop]; omega), List.getElem?_map, List.getElem?_drop, g1]
        rfl
      · rw [List.getElem?_append_right (by rw [List.length_map, List.length_drop]; omega), List.getElem?_replicate] at z
        split at z
        · exact .inl (Option.some.inj z).symm
        · cases z
  refine run es e p hP F (erase H p) F H _ _ ⟨st, ?_, fun i x z => ?_, fun i q e2 z => ?_, fun i v z => ?_, fun i K' ns z => ?_, fun i i' q e1 e2 z1 z2 => ?_⟩ ⟨fun Γ σ F' H' z l o => ?_, fun Γ σ F' H' z l o => z.elim, fun Γ σ F' H' z l o => z.elim, fun m x Γ σ F' H' v z l o r1 y => ?_, fun c F' H' z _ _ => z.elim⟩
  · unfold L2.start
    simp only [List.length_append, List.length_map, List.length_replicate, List.length_cons, List.length_take, List.length_drop]
    omega
  · rcases get i _ z with y | ⟨_, y, _⟩ | ⟨e3, v, y, y2, y3⟩
    · cases y
    · cases y
    · cases y
      exact ⟨v, y2, y3⟩
  · rcases get i _ z with y | ⟨_, y, y2⟩ | ⟨e3, v, y, y2, y3⟩
    · cases y
    · cases y
      exact ⟨y2, fp, erase_same, w⟩
    · cases y
  · rcases get i _ z with y | ⟨_, y, _⟩ | ⟨e3, v, y, y2, y3⟩ <;> cases y
  · rcases get i _ z with y | ⟨_, y, _⟩ | ⟨e3, v, y, y2, y3⟩ <;> cases y
  · rcases get i _ z1 with y | ⟨y0, y, _⟩ | ⟨e3, v, y, y2, y3⟩
    · cases y
    · rcases get i' _ z2 with x | ⟨x0, x, _⟩ | ⟨e3, v, x, x2, x3⟩
      · cases x
      · rw [y0, x0]
      · cases x
    · cases y
  · obtain ⟨e', z1, z2⟩ := (show ∃ e', post es e e' .none ∧ Γ[j]? = some (Sl.ow p e') from z)
    obtain ⟨_, y2, _, y4⟩ := o.ow j p e' z2
    exact q e' .none z1 .non F' H' o.st y2 y4 .non fun _ q y => nomatch y
  · obtain ⟨e', z1, z2, z3⟩ := (show ∃ e', post es e e' x ∧ Γ[j]? = some (Sl.ow p e') ∧ (n = true → m = true) from z)
    obtain ⟨_, y2, _, y4⟩ := o.ow j p e' z2
    refine q e' x z1 v F' H' o.st y2 y4 r1 fun hn q eq => ?_
    have hq := y (z3 hn) q eq
    have nq : q ≠ p := fun z => by
      subst z
      subst eq
      cases r1 with
      | lst a _ => rw [y2] at a; cases a
      | tup a _ => rw [y2] at a; cases a
      | emp a => rw [y2] at a; cases a
      | dic a _ _ => rw [y2] at a; cases a
      | obj a _ _ => rw [y2] at a; cases a
    rw [erase_ne nq] at hq
    exact ⟨hq, nq⟩
theorem len_puM {vs : List V} {Q : VK} {a : Nat} (ha : ∀ es e, pre es e → es.length = a) (h : PuM T j n pre post vs H Q E) : vs.length = a + 1 := by
  obtain ⟨F, p, ws, es, e, rfl, hj, s, tb, rv, fp, w, hP, q⟩ := h
  have la := ha _ _ hP
  have lw := rv.length
  simp only [List.length_append, List.length_cons, List.length_take, List.length_drop]
  omega
/-! ### a def that may tell one of several -/
def PuD (T : List (Addr × Str)) (n : Bool) (pre : List PyData → Prop) (post : List PyData → PyData → Prop) : Sp := fun vs H Q _ => ∃ (F : Hp) (es : List PyData), Sub F H ∧ LamX.Tabs T H ∧ RvL F vs es ∧ pre es ∧ ∀ r, post es r → ∀ v F' H', Step T F F' H H' → Rv F' v r → (n = true → ∀ p, v = .ref p → H p = none) → Q v H'
/-- te may give what post says -/
def Ed (T : List (Addr × Str)) (Δ : List Sl) (te : TE) (n : Bool) (post : PyData → Prop) : Prop := ∀ (σ : St) (F : Hp), Sh F σ Δ → ∀ H, Sub F H → LamX.Tabs T H → ∀ Q : VK, (∀ r, post r → ∀ v F' H', Step T F F' H H' → Rv F' v r → (n = true → ∀ p, v = .ref p → H p = none) → Q v H') → te σ H Q
variable {pre1 : List PyData → Prop} {post1 : List PyData → PyData → Prop} {pd : PyData → Prop}
theorem ed_call {X : XK} (ha : Ea T Δ tr es) (hp : pre1 es) : Ed T Δ (tCall (PuD T n pre1 post1) [] X tr) n (post1 es) := fun σ F s H su t Q q => ha σ F s H su t _ fun vs F1 H1 s1 rv => ⟨F1, es, s1.sub, s1.tab, by rw [List.append_nil]; exact rv, hp, fun r hr v F2 H2 s2 r2 z => q r hr v F2 H2 (s1.trans s2) r2 fun hn p y => s1.ext.live p (z hn p y)⟩
theorem len_puD {vs : List V} {Q : VK} {a : Nat} (ha : ∀ es, pre1 es → es.length = a) (h : PuD T n pre1 post1 vs H Q E) : vs.length = a := by
  obtain ⟨F, es, s, tb, rv, hP, q⟩ := h
  rw [rv.length]
  exact ha es hP
/-- what is told is kept in the frame -/
theorem r_asgD (h : Ed T (hid Γ) te n pd) (k : ∀ r, pd r → R (.nx (Γ.set i (.sh r)))) : Run T K E Γ (tAsg te (gName i)) R := fun F0 H0 F H σ D o f => h σ F o.toHid H o.st.sub o.st.tab _ fun r hr v F' H' s rv _ => f.nx _ _ F' H' (k r hr) s.ff ((o.step s).set rv)
theorem r_asgTD (h : Ed T (hid Γ) te n pd) (k : ∀ r, pd r → ∃ bs, Bd g r bs ∧ R (.nx (setsG Γ bs))) : Run T K E Γ (tAsg te g) R := fun F0 H0 F H σ D o f => h σ F o.toHid H o.st.sub o.st.tab _ fun r hr v F' H' s rv _ => by
  obtain ⟨bs, b, z⟩ := k r hr
  obtain ⟨ws, h1, h2⟩ := b F' v rv
  exact h2 H' σ D.nx s.sub (f.nx _ _ F' H' z s.ff ((o.step s).sets h1))
def resD (n : Bool) (post : PyData → Prop) : Out → Prop
  | .nx _ => post .none
  | .rt m r _ => post r ∧ (n = true → m = true)
  | _ => False
theorem run_puD {N : List Str} {vs : List V} {Q : VK} (k a : Nat) (h : PuD T n pre1 post1 vs H Q E) (ha : ∀ es, pre1 es → es.length = a) (hN : N.length = a + k)
    (run : ∀ es, pre1 es → Run T K E (es.map Sl.sh ++ List.replicate k .no) t (resD n (post1 es))) : t { nx := fun _ H' => Q .non H', rt := Q } (L2.start N vs) H := by
  obtain ⟨F, es, s, tb, rv, hp, q⟩ := h
  refine run es hp F H F H _ _ (ok_start k s tb rv (by rw [ha es hp]; exact hN)) ⟨fun Γ σ F' H' z l o => ?_, fun Γ σ F' H' z l o => z.elim, fun Γ σ F' H' z l o => z.elim, fun m e Γ σ F' H' v z l o r1 y => ?_, fun c F' H' z _ _ => z.elim⟩
  · exact q _ z .non F' H' o.st .non fun _ p y => nomatch y
  · obtain ⟨z1, z2⟩ := (show post1 es e ∧ (n = true → m = true) from z)
    exact q e z1 v F' H' o.st r1 fun hn => y (z2 hn)
/-! ### get -/
theorem ex_dget1 {_ : Dt ν} {B : Dc ν} {q : Pt} (ha : Ex T Δ ta (d B)) (hb : Ex T Δ tb (d q)) : Ex T Δ (tDGet1 ta tb) (d (B.get q)) := fun σ F s H su t Q k => ha σ F s H su t _ fun v F1 H1 s1 r => by
  obtain ⟨p, kvs, rfl, a, b⟩ := rv_dc r
  refine ⟨p, rfl, ?_, hb σ F1 (s.mono s1.ff) H1 s1.sub s1.tab _ fun w F2 H2 s2 r2 => ?_⟩
  · exact .inr ⟨kvs, .inl (s1.sub _ _ a).1⟩
  · refine ⟨_, dget_of s2.sub (b.mono s2.ff) (s2.sub _ _ (s2.ff _ _ a)).1 r2, ?_⟩
    have z := b.get q
    revert z
    show (match (⟨B.l⟩ : Dc ν).get q with
      | some x => ∃ u, valV kvs (kk q) = some u ∧ Rv F1 u (d x)
      | none => valV kvs (kk q) = none) → _
    cases hB : (⟨B.l⟩ : Dc ν).get q with
    | none =>
      intro z
      have e : B.get q = none := hB
      have z' : valV kvs (kk q) = none := z
      rw [z']
      exact k _ F2 H2 (s1.trans s2) (by rw [e]; exact .non)
    | some x =>
      rintro ⟨u, z1, z2⟩
      have e : B.get q = some x := hB
      rw [z1]
      exact k _ F2 H2 (s1.trans s2) (by rw [e]; exact z2.mono s2.ff)
end
end Tf

/-! Pieces laid in part: a cell more is covered, or cells fall short. -/
namespace Tf
open PySem PySem.Spec PyProof.Rows L2 Dt
section
variable {ν : Type}
theorem find_map {l : List (Pt × ν)} {k q : Pt} {x : ν} : (l.map fun e => if e.1 = k then (e.1, x) else e).find? (fun e => decide (e.1 = q)) = (l.find? fun e => decide (e.1 = q)).map fun e => if e.1 = k then (e.1, x) else e := by
  induction l with
  | nil => rfl
  | cons a l ih =>
    rw [List.map_cons, List.find?_cons, List.find?_cons]
    have e : (if a.1 = k then (a.1, x) else a).1 = a.1 := by split <;> rfl
    rw [e]
    cases decide (a.1 = q) with
    | true => rfl
    | false => exact ih
theorem Dc.get_put (D : Dc ν) (k q : Pt) (x : ν) : (D.put k x).get q = if q = k then some x else D.get q := by
  unfold Dc.get Dc.put
  by_cases h : (D.l.any fun e => decide (e.1 = k)) = true
  · simp only [h, if_true]
    rw [find_map]
    by_cases e : q = k
    · subst e
      rw [if_pos rfl]
      obtain ⟨a, ha, he⟩ := List.any_eq_true.mp h
      cases hf : D.l.find? fun e => decide (e.1 = q) with
      | none => exact absurd he (by simpa using (List.find?_eq_none.mp hf) a ha)
      | some b =>
        have := List.find?_some hf
        simp only [decide_eq_true_eq] at this
        simp [this]
    · rw [if_neg e]
      cases hf : D.l.find? fun e => decide (e.1 = q) with
      | none => rfl
      | some b =>
        have := List.find?_some hf
        simp only [decide_eq_true_eq] at this
        have n : ¬ b.1 = k := fun z => e (this.symm.trans z)
        simp [n]
  · simp only [if_neg h]
    rw [List.find?_append]
    by_cases e : q = k
    · subst e
      rw [if_pos rfl]
      have : (D.l.find? fun e => decide (e.1 = q)) = none := List.find?_eq_none.mpr fun a ha z => h (List.any_eq_true.mpr ⟨a, ha, z⟩)
      rw [this]
      simp
    · rw [if_neg e]
      have n : ¬ k = q := fun z => e z.symm
      simp [n]
theorem Dc.get_same (D : Dc ν) (k : Pt) (x : ν) : (D.put k x).get k = some x := by rw [Dc.get_put, if_pos rfl]
theorem Dc.get_ne {D : Dc ν} {k q : Pt} {x : ν} (h : q ≠ k) : (D.put k x).get q = D.get q := by rw [Dc.get_put, if_neg h]
theorem Dc.mem_keys {D : Dc ν} {k : Pt} : k ∈ D.keys ↔ ∃ x, D.get k = some x := by
  have := Dc.get_some (D := D) (k := k)
  constructor
  · intro h
    rw [decide_eq_true h] at this
    exact Option.isSome_iff_exists.mp this
  · rintro ⟨x, h⟩
    rw [h] at this
    exact of_decide_eq_true this.symm
theorem Dc.not_keys {D : Dc ν} {k : Pt} : k ∉ D.keys ↔ D.get k = none := by
  rw [Dc.mem_keys]
  constructor
  · intro h
    cases e : D.get k with
    | none => rfl
    | some x => exact absurd ⟨x, e⟩ h
  · rintro h ⟨x, e⟩
    rw [h] at e
    cases e
end
theorem beside_symm {a b : Pt} (h : b ∈ beside4 a) : a ∈ beside4 b := by
  obtain ⟨x, y⟩ := a
  obtain ⟨u, v⟩ := b
  unfold beside4 at *
  simp only [List.mem_cons, Prod.mk.injEq, List.not_mem_nil, or_false] at *
  omega
theorem beside_dark {a b : Pt} (h : b ∈ beside4 a) : isDark b = !isDark a := by
  obtain ⟨x, y⟩ := a
  obtain ⟨u, v⟩ := b
  unfold beside4 at h
  unfold isDark
  simp only [List.mem_cons, Prod.mk.injEq, List.not_mem_nil, or_false] at h
  by_cases e : (x + y) % 2 = 0
  · rw [decide_eq_true e, decide_eq_false (by omega)]; rfl
  · rw [decide_eq_false e, decide_eq_true (by omega)]; rfl
theorem beside_ne {a b : Pt} (h : b ∈ beside4 a) : b ≠ a := fun e => by
  have := beside_dark h
  rw [e] at this
  exact absurd this (by cases isDark a <;> simp)
theorem nodup_at {l : List Pt} {i j : Nat} {a : Pt} (h : l.Nodup) (hi : l[i]? = some a) (hj : l[j]? = some a) : i = j :=
  (List.getElem?_inj (List.getElem?_eq_some_iff.mp hi).1 h).mp (hi.trans hj.symm)
/-- pieces laid in part -/
structure Half (cells : List Pt) (D : Dc Pt) : Prop where
  sym : ∀ a b, D.get a = some b → D.get b = some a
  bes : ∀ a b, D.get a = some b → b ∈ beside4 a
  mem : ∀ a b, D.get a = some b → a ∈ cells
/-- from which cell each place was reached: the chain leads back to the start -/
structure Chn (cells : List Pt) (D : Dc Pt) (start : Pt) (R : Dc Pt) : Prop where
  nd : R.keys.Nodup
  step : ∀ (i : Nat) (o : Pt), R.keys[i]? = some o → ∃ t, R.get o = some t ∧ o ∈ beside4 t ∧ t ∈ cells ∧ o ∈ cells ∧ isDark t = isDark start ∧ (t = start ∨ ∃ (j : Nat) (o' : Pt), j < i ∧ R.keys[j]? = some o' ∧ D.get o' = some t)
/-- while pieces are shifted: P is laid but at free -/
structure Shft (cells : List Pt) (D : Dc Pt) (start o0 : Pt) (R P : Dc Pt) (free : Pt) (i : Nat) : Prop where
  at_ : R.keys[i]? = some free
  sym : ∀ a b, a ≠ free → P.get a = some b → b ≠ free ∧ P.get b = some a
  bes : ∀ a b, a ≠ free → P.get a = some b → b ∈ beside4 a
  mem : ∀ a b, a ≠ free → P.get a = some b → a ∈ cells
  low : ∀ (j : Nat) (o : Pt), j < i → R.keys[j]? = some o → P.get o = D.get o
  st : P.get start = none
  dom : ∀ a, ((P.get a).isSome = true ∨ a = free) ↔ ((D.get a).isSome = true ∨ a = o0)
/-- all is done -/
structure Shifted (cells : List Pt) (D : Dc Pt) (start o0 : Pt) (P : Dc Pt) : Prop where
  half : Half cells P
  dom : ∀ a, (P.get a).isSome = true ↔ ((D.get a).isSome = true ∨ a = o0 ∨ a = start)
theorem shft_first {cells : List Pt} {D R : Dc Pt} {start o0 : Pt} {i : Nat} (h : Half cells D) (s : D.get start = none) (n : D.get o0 = none) (a : R.keys[i]? = some o0) : Shft cells D start o0 R D o0 i :=
  ⟨a, fun a b ne e => ⟨fun z => (by rw [z] at e; have := h.sym _ _ e; rw [n] at this; cases this), h.sym a b e⟩, fun a b _ e => h.bes a b e, fun a b _ e => h.mem a b e, fun _ _ _ _ => rfl, s, fun a => Iff.rfl⟩
theorem put2 {P : Dc Pt} {t free a : Pt} : ((P.put t free).put free t).get a = if a = free then some t else if a = t then some free else P.get a := by
  rw [Dc.get_put, Dc.get_put]
theorem shft_turn {cells : List Pt} {D R P : Dc Pt} {start o0 free : Pt} {i : Nat} (C : Chn cells D start R) (h : Shft cells D start o0 R P free i) :
    ∃ t, R.get free = some t ∧ (P.get t = none → Shifted cells D start o0 ((P.put t free).put free t)) ∧ ∀ o, P.get t = some o → ∃ j, j < i ∧ Shft cells D start o0 R ((P.put t free).put free t) o j := by
  obtain ⟨t, h1, h2, h3, h4, h5, h6⟩ := C.step i free h.at_
  have tf : t ≠ free := (beside_ne h2).symm
  have fs : free ≠ start := fun e => by
    have := beside_dark h2
    rw [h5, e] at this
    exact absurd this (by cases isDark start <;> simp)
  refine ⟨t, h1, fun hn => ?_, fun o ho => ?_⟩
  · have ts : t = start := by
      rcases h6 with z | ⟨j, o', hj, hk, hd⟩
      · exact z
      · exfalso
        have no : o' ≠ free := fun e => by
          have := nodup_at C.nd hk (e ▸ h.at_)
          omega
        have := (h.sym o' t no (by rw [h.low j o' hj hk]; exact hd)).2
        rw [hn] at this
        cases this
    have key : ∀ a b, ((P.put t free).put free t).get a = some b → (a = free ∧ b = t) ∨ (a = t ∧ b = free) ∨ (a ≠ free ∧ a ≠ t ∧ P.get a = some b ∧ b ≠ free ∧ b ≠ t) := fun a b e => by
      rw [put2] at e
      by_cases e1 : a = free
      · rw [if_pos e1] at e
        exact .inl ⟨e1, (Option.some.inj e).symm⟩
      · rw [if_neg e1] at e
        by_cases e2 : a = t
        · rw [if_pos e2] at e
          exact .inr (.inl ⟨e2, (Option.some.inj e).symm⟩)
        · rw [if_neg e2] at e
          have s := h.sym a b e1 e
          refine .inr (.inr ⟨e1, e2, e, s.1, fun z => ?_⟩)
          rw [z, hn] at s
          cases s.2
    refine ⟨⟨fun a b e => ?_, fun a b e => ?_, fun a b e => ?_⟩, fun a => ?_⟩
    · rw [put2]
      rcases key a b e with ⟨rfl, rfl⟩ | ⟨rfl, rfl⟩ | ⟨e1, e2, e3, e4, e5⟩
      · rw [if_neg tf, if_pos rfl]
      · rw [if_pos rfl]
      · rw [if_neg e4, if_neg e5]
        exact (h.sym a b e1 e3).2
    · rcases key a b e with ⟨rfl, rfl⟩ | ⟨rfl, rfl⟩ | ⟨e1, e2, e3, e4, e5⟩
      · exact beside_symm h2
      · exact h2
      · exact h.bes a b e1 e3
    · rcases key a b e with ⟨rfl, rfl⟩ | ⟨rfl, rfl⟩ | ⟨e1, e2, e3, e4, e5⟩
      · exact h4
      · exact h3
      · exact h.mem a b e1 e3
    · rw [put2]
      have dm := h.dom a
      by_cases e1 : a = free
      · rw [if_pos e1]
        refine ⟨fun _ => ?_, fun _ => rfl⟩
        rcases dm.mp (.inr e1) with z | z
        · exact .inl z
        · exact .inr (.inl z)
      · rw [if_neg e1]
        by_cases e2 : a = t
        · rw [if_pos e2]
          exact ⟨fun _ => .inr (.inr (e2.trans ts)), fun _ => rfl⟩
        · rw [if_neg e2]
          constructor
          · intro z
            rcases dm.mp (.inl z) with y | y
            · exact .inl y
            · exact .inr (.inl y)
          · rintro (z | z | z)
            · rcases dm.mpr (.inl z) with y | y
              · exact y
              · exact absurd y e1
            · rcases dm.mpr (.inr z) with y | y
              · exact y
              · exact absurd y e1
            · exact absurd (z.trans ts.symm) e2
  · have ts : t ≠ start := fun e => by
      rw [e, h.st] at ho
      cases ho
    obtain ⟨j, o', hj, hk, hd⟩ := h6.resolve_left ts
    have no : o' ≠ free := fun e => by
      have := nodup_at C.nd hk (e ▸ h.at_)
      omega
    have po : P.get o' = some t := by rw [h.low j o' hj hk]; exact hd
    have so := h.sym o' t no po
    have eo : o' = o := by
      have := so.2
      rw [ho] at this
      exact (Option.some.inj this).symm
    subst eo
    have to : t ≠ o' := fun e => by
      have := h.bes t o' tf ho
      exact beside_ne this e.symm
    have key : ∀ a b, a ≠ o' → ((P.put t free).put free t).get a = some b → (a = free ∧ b = t) ∨ (a = t ∧ b = free) ∨ (a ≠ free ∧ a ≠ t ∧ P.get a = some b ∧ b ≠ free ∧ b ≠ t ∧ b ≠ o') := fun a b na e => by
      rw [put2] at e
      by_cases e1 : a = free
      · rw [if_pos e1] at e
        exact .inl ⟨e1, (Option.some.inj e).symm⟩
      · rw [if_neg e1] at e
        by_cases e2 : a = t
        · rw [if_pos e2] at e
          exact .inr (.inl ⟨e2, (Option.some.inj e).symm⟩)
        · rw [if_neg e2] at e
          have s := h.sym a b e1 e
          refine .inr (.inr ⟨e1, e2, e, s.1, fun z => ?_, fun z => ?_⟩)
          · rw [z, ho] at s
            exact na (Option.some.inj s.2).symm
          · rw [z, po] at s
            exact e2 (Option.some.inj s.2).symm
    refine ⟨j, hj, hk, fun a b na e => ?_, fun a b na e => ?_, fun a b na e => ?_, fun j' q hj' hq => ?_, ?_, fun a => ?_⟩
    · rw [put2]
      rcases key a b na e with ⟨rfl, rfl⟩ | ⟨rfl, rfl⟩ | ⟨e1, e2, e3, e4, e5, e6⟩
      · exact ⟨to, by rw [if_neg tf, if_pos rfl]⟩
      · exact ⟨no.symm, by rw [if_pos rfl]⟩
      · exact ⟨e6, by rw [if_neg e4, if_neg e5]; exact (h.sym a b e1 e3).2⟩
    · rcases key a b na e with ⟨rfl, rfl⟩ | ⟨rfl, rfl⟩ | ⟨e1, e2, e3, e4, e5, e6⟩
      · exact beside_symm h2
      · exact h2
      · exact h.bes a b e1 e3
    · rcases key a b na e with ⟨rfl, rfl⟩ | ⟨rfl, rfl⟩ | ⟨e1, e2, e3, e4, e5, e6⟩
      · exact h4
      · exact h3
      · exact h.mem a b e1 e3
    · have q1 : q ≠ free := fun e => by
        have := nodup_at C.nd hq (e ▸ h.at_)
        omega
      have q2 : q ≠ t := fun e => by
        obtain ⟨t', _, k2, _, _, k5, _⟩ := C.step j' q hq
        have := beside_dark k2
        rw [e, h5, k5] at this
        exact absurd this (by cases isDark start <;> simp)
      rw [put2, if_neg q1, if_neg q2]
      exact h.low j' q (by omega) hq
    · rw [put2, if_neg fs.symm, if_neg ts.symm]
      exact h.st
    · have dm := h.dom a
      rw [put2]
      by_cases e1 : a = free
      · rw [if_pos e1]
        exact ⟨fun _ => dm.mp (.inr e1), fun _ => .inl rfl⟩
      · rw [if_neg e1]
        by_cases e2 : a = t
        · rw [if_pos e2]
          refine ⟨fun _ => dm.mp (.inl ?_), fun _ => .inl rfl⟩
          rw [e2, ho]
          rfl
        · rw [if_neg e2]
          constructor
          · rintro (z | z)
            · exact dm.mp (.inl z)
            · refine dm.mp (.inl ?_)
              rw [z, po]
              rfl
          · intro z
            rcases dm.mpr z with y | y
            · exact .inl y
            · exact absurd y e1
end Tf

/-! What the law itself needs: a Floor made of a list that is written later, a loop that clears new lists. -/
namespace Tf
open PySem PySem.Spec PyProof.Rows L2 Dt
theorem texts_inj {a b : List Str} (h : (d a : PyData) = d b) : a = b := by
  have h' : PyData.list (a.map d) = .list (b.map d) := h
  injection h' with h'
  clear h
  induction a generalizing b with
  | nil =>
    cases b with
    | nil => rfl
    | cons => simp at h'
  | cons x a ih =>
    cases b with
    | nil => simp at h'
    | cons y b =>
      simp only [List.map_cons, List.cons.injEq] at h'
      obtain ⟨e1, e2⟩ := h'
      have e1 : PyData.str x = .str y := e1
      injection e1 with e1
      rw [e1, ih e2]
section
variable {σ : St} {F H : Hp} {te : TE} {K : PySem.W.Frag} {CC : XK}
theorem ev_make {rows : List Str} (h : Ev (tabs K) te σ F rows) (ok : okRows (d rows)) (hj : judgeD (d rows) = none) (s : Sub F H) (t : LamX.Tabs (tabs K) H) {Q : VK}
    (q : ∀ p F' H', Step (tabs K) F F' H H' → Rv F' (.ref p) (d (flOf (He.ga K "Floor") rows)) → FlNew F' H p → H p = none → Q (.ref p) H') : tMake (He.ga K "Floor") (sp_Floor_m_init K) [] CC (tCons te tNil) σ H Q :=
  h H s t _ fun v F1 H1 st r => fun x dx hx hdx ne => by
    refine ⟨F1, H1, x, dx, v, d rows, rfl, rfl, hx, hdx, ne, st.sub, st.tab, r, ok, fun c hc => ?_, fun rows' e _ F' H' s2 r2 fn => ⟨rfl, ?_⟩⟩
    · rw [hj] at hc
      cases hc
    · have e' := texts_inj e
      subst e'
      obtain ⟨C, dx', a, b, u3, e1, e2, e3⟩ := fn
      exact q x F' H' (st.trans s2) r2 ⟨C, dx', a, b, u3, e1, st.ext.live a e2, st.ext.live b e3⟩ (st.ext.live x hx)
/-- the list that was handed in is not a part of the Floor -/
theorem make_unsee {rows : BR} {p : Addr} (o : Own F H p rows) (t : LamX.Tabs (tabs K) H) (s : Sub F H) (ok : okRows (d (rtexts rows))) (hj : judgeD (d (rtexts rows)) = none) {i : Nat} (hi : σ[i]? = some (some (.ref p))) {Q : VK}
    (q : ∀ x F' H', Step (tabs K) F F' H H' → Rv F' (.ref x) (d (flOf (He.ga K "Floor") (rtexts rows))) → Own F' H' p rows → Q (.ref x) H') : tMake (He.ga K "Floor") (sp_Floor_m_init K) [] CC (tCons (tVar i) tNil) σ H Q := by
  obtain ⟨h1, us, h2, h3⟩ := id o
  have ff := same_upd (o := HO.lst us) h1
  have rG : Rv (upd F p (.lst us)) (.ref p) (d rows) := .lst upd_same (h3.mono ff)
  refine ev_make (F := upd F p (.lst us)) (ev_rtexts (rows := rows) (ev_var hi rG)) ok hj (sub_upd s h2 nt_lst) t fun x G' H' st r fn nx => ?_
  have su := st.unsee h1
  obtain ⟨x', dx, u1, u2, u3, e, a0, r1, r2, r3⟩ := rv_fl r
  cases e
  obtain ⟨C, dx', a, b, u3', e1, e2, e3⟩ := fn
  rw [a0] at e1
  have e1' := Option.some.inj e1
  injection e1' with _ _ e4
  simp only [List.cons.injEq, Prod.mk.injEq, true_and, and_true] at e4
  obtain ⟨q1, q2, q3⟩ := e4
  subst q1 q2
  have hp' : G' p = some (.lst us) := st.ff _ _ upd_same
  have na : a ≠ p := fun z => by rw [z, h2] at e2; cases e2
  have nb : b ≠ p := fun z => by rw [z, h2] at e3; cases e3
  have nxp : x ≠ p := fun z => by rw [z, h2] at nx; cases nx
  refine q x (erase G' p) H' su (fl_rv (x := flOf (He.ga K "Floor") (rtexts rows)) (by rw [erase_ne nxp]; exact a0) (erase_strs hp' r1 na) (erase_pts hp' r2 nb) (erase_dc hp' r3)) ⟨erase_same, us, st.ext.keep p _ h2 nt_lst, h3.mono su.ff⟩
end
/-! ### new lists that are cleared, one behind another -/
section
variable {T : List (Addr × Str)} {σ : St} {F F0 H0 H : Hp} {te : TE} {K : PySem.W.Frag} {D : Ends}
/-- te gives a new list -/
def NewL (T : List (Addr × Str)) (te : TE) (σ : St) (F : Hp) : Prop :=
  ∀ H, Sub F H → LamX.Tabs T H → ∀ Q : VK, (∀ a us H', Step T F F H H' → H a = none → H' a = some (.lst us) → Q (.ref a) H') → te σ H Q
theorem newL_of {α : Type} [Dt α] {xs : List α} (h : EvN T te σ F xs) : NewL T te σ F := fun H s t Q q => h H s t Q fun v F' H' st r n => by
  obtain ⟨p, us, rfl, a, _⟩ := rv_list r
  exact q p us H' st.keep (n p rfl) (st.sub _ _ a).1
inductive NewLs (T : List (Addr × Str)) (σ : St) (F : Hp) : TA → Nat → Prop
  | nil : NewLs T σ F tNil 0
  | cons {te : TE} {tr : TA} {n : Nat} (h : NewL T te σ F) (r : NewLs T σ F tr n) : NewLs T σ F (tCons te tr) (n + 1)
theorem NewLs.run {tr : TA} {n : Nat} (h : NewLs T σ F tr n) : ∀ H, Sub F H → LamX.Tabs T H → ∀ Q : List V → Hp → Prop, (∀ (as : List Addr) (H' : Hp), as.length = n → Step T F F H H' → (∀ a ∈ as, H a = none ∧ ∃ us, H' a = some (.lst us)) → Q (as.map V.ref) H') → tr σ H Q := by
  induction h with
  | nil => exact fun H s t Q q => q [] H rfl (.refl s t) fun a z => by cases z
  | cons h r ih =>
    intro H s t Q q
    refine h H s t _ fun a us H1 s1 na ha => ih H1 s1.sub s1.tab _ fun as H2 hl s2 hs => ?_
    refine q (a :: as) H2 (by simp [hl]) (s1.trans s2) fun b hb => ?_
    rcases List.mem_cons.mp hb with z | z
    · rw [z]
      exact ⟨na, us, s2.ext.keep a _ ha nt_lst⟩
    · obtain ⟨z1, z2⟩ := hs b z
      exact ⟨s1.ext.live b z1, z2⟩
theorem s_clears {i : Nat} {tr : TA} {n : Nat} (h : NewLs T σ F tr n) (hn : n ≤ 1000) (hi : i < σ.length) (st : Step T F0 F H0 H) (k : ∀ σ' H', (σ' = σ ∨ ∃ u, σ' = σ.set i (some u)) → Step T F F H H' → Step T F0 F H0 H' → D.nx σ' H') :
    tFor (iAny K (tLst tr)) (gName i) (tDrop (tBM0 K "list" rClear (tVar i))) D σ H := by
  refine .inl (h.run H st.sub st.tab _ fun as H1 hl s1 hs => ⟨Nat.le_trans (by rw [List.length_map]; omega) (by decide : 1000 ≤ sizeLine), fun p hp => ?_⟩)
  have np : H p = none := s1.ext.live p hp
  have fp := st.sub.free np
  have s2 : Step T F F H (upd H1 p (.lst (as.map V.ref))) := ⟨Same.refl _, s1.sub.mut fp, s1.ext.trans (Ext.new hp), fun _ h _ => h, tabs_new s1.tab hp⟩
  refine ⟨p, rfl, ⟨_, SqL.of upd_same⟩, fun j m σ' H' => m = n - j ∧ j ≤ n ∧ (σ' = σ ∨ ∃ u, σ' = σ.set i (some u)) ∧ Step T F F H H' ∧ H' p = some (.lst (as.map V.ref)) ∧ ∀ a ∈ as, ∃ us, H' a = some (.lst us), ⟨n, by simp, Nat.zero_le _, .inl rfl, s2, upd_same, fun a ha => ?_⟩, ?_⟩
  · obtain ⟨z1, us, z2⟩ := hs a ha
    have ne : a ≠ p := fun z => by rw [z, hp] at z2; cases z2
    exact ⟨us, by rw [upd_ne ne]; exact z2⟩
  · rintro j m σ' H' ⟨rfl, hj, hσ, s3, hp3, hs3⟩
    by_cases hlt : j < n
    · refine .inr ⟨⟨as.map V.ref, .ref (as[j]'(by omega)), SqL.of hp3, by simp [hl, hlt]⟩, fun σ2 H2 => j + 1 ≤ n ∧ (σ2 = σ ∨ ∃ u, σ2 = σ.set i (some u)) ∧ Step T F F H H2 ∧ H2 p = some (.lst (as.map V.ref)) ∧ ∀ a ∈ as, ∃ us, H2 a = some (.lst us), fun σ2 H2 z => ⟨n - (j + 1), by omega, rfl, z⟩, fun x H2 y => ?_⟩
      obtain ⟨rfl, y⟩ := y
      have hx := y _ (SqL.of hp3)
      rw [List.getElem?_map] at hx
      obtain ⟨a, ha, rfl⟩ := Option.map_eq_some_iff.mp hx
      have hm : a ∈ as := List.mem_of_getElem? ha
      obtain ⟨us, hu⟩ := hs3 a hm
      have na := (hs a hm).1
      have nap : a ≠ p := fun z => by
        obtain ⟨_, us', z2⟩ := hs a hm
        rw [z, hp] at z2
        cases z2
      have fa := st.sub.free na
      have hset : σ'.set i (some (.ref a)) = σ.set i (some (.ref a)) := by
        rcases hσ with z | ⟨u, z⟩
        · rw [z]
        · rw [z, List.set_set]
      show tDrop _ _ _ _
      refine s_clear (F := F) (p := a) (us := us) (by rw [hset, List.getElem?_set]; simp [hi]) fa hu s3 na fun H4 s4 e4 kp => ?_
      refine ⟨hlt, .inr ⟨_, hset⟩, s4, kp p _ (Ne.symm nap) hp3, fun b hb => ?_⟩
      by_cases e : b = a
      · subst e
        exact ⟨_, e4⟩
      · obtain ⟨ws, hw⟩ := hs3 b hb
        exact ⟨ws, kp b _ e hw⟩
    · have e : j = n := by omega
      subst e
      exact .inl ⟨⟨_, SqL.of hp3, by simp [hl]⟩, k σ' H' hσ s3 (st.trans s3)⟩
end
/-! ### the law's things -/
def thingsD : List PyData := [.none, .str "a", .tuple [.int 0], .tuple [.bool true, .int 0], .list [.int 0, .int 0], .tuple [.int 0, .str "0"], .dict [(.none, .none)], .tuple [.int 0, .int 0, .int 0]]
theorem things_bad : ∀ x ∈ thingsD, okThing x ∧ isPlaceD x = false := by
  intro x hx
  unfold thingsD at hx
  simp only [List.mem_cons, List.not_mem_nil, or_false] at hx
  rcases hx with z | z | z | z | z | z | z | z <;> subst z <;> refine ⟨⟨rfl, fun a b e => ?_⟩, rfl⟩ <;> first | (cases e; exact ⟨rfl, rfl⟩) | cases e
section
variable {T : List (Addr × Str)} {σ : St} {F : Hp} {te ta tb : TE} {K : PySem.W.Frag}
theorem ev_emp : Ev T (tOr2 tDNewK tDNewT) σ F (PyData.dict [(.none, .none)]) := fun H s t Q q => .inl fun p hp => by
  have st := Step.made (o := .dK []) s t hp (fun _ z => by cases z)
  exact q _ _ _ st (.emp upd_same)
theorem ev_things {tr : TA} (h : EvXs T σ F tr thingsD) : Ev T (tLst tr) σ F thingsD := ev_list h (by show 8 ≤ 1000; decide)
end
abbrev sp_law (K : PySem.W.Frag) : Sp := PuC1 (tabs K) K fun _ => true
theorem asg_raw {te : TE} {g : TG} {D : Ends} {σ : St} {H : Hp} (h : te σ H fun x H1 => g x σ H1 D.nx) : tAsg te g D σ H := h
section
variable {T : List (Addr × Str)} {σ : St} {F F0 G H0 H : Hp} {K : PySem.W.Frag} {D : Ends} {tt : TT} {tu tw : TS}
/-- a test that is read in a larger frame, and is false -/
theorem s_ifG (l : Same F G) (sG : Sub G H) (h : EvT T tt σ G false) (st : Step T F0 F H0 H) (k : ∀ H', Step T G G H H' → Step T F F H H' → Step T F0 F H0 H' → tw D σ H') : tIfS tt tu tw D σ H :=
  h H sG st.tab _ fun H' s => k H' s (s.narrow l) (st.trans (s.narrow l))
/-- xs[0].clear() -/
theorem s_clearIx {i : Nat} {l b : Addr} {us : List V} (hi : σ[i]? = some (some (.ref l))) (hl : H l = some (.lst [.ref b])) (fb : F b = none) (hb : H b = some (.lst us)) (st : Step T F0 F H0 H) (n : H0 b = none)
    (k : ∀ H', Step T F0 F H0 H' → D.nx σ H') : tDrop (tBM0 K "list" rClear (tIxU K (tVar i) (tC (.int 0)))) D σ H :=
  .inl ⟨_, hi, .inl ⟨l, [.ref b], 0, .ref b, rfl, rfl, SqL.of hl, atI_nat (j := 0) rfl, Or.inl ⟨rfl, _, SqL.of hb⟩, b, us, rfl, rfl, hb, k _ (st.mut fb n hb nt_lst fun φ z => nomatch z)⟩⟩
end
theorem kept_ok (rows : BR) (a b c : List Pt) : SeqAt.shaped (.list [d (rtexts rows), d a, d b, d c]) = true ∧ PyData.eqv (.list [d (rtexts rows), d a, d b, d c]) (.list [d (rtexts rows), d a, d b, d c]) = true := by
  obtain ⟨h1, h2⟩ := shaped_strs (xs := rtexts rows) rtexts_ok
  have h3 : PyData.eqv (d (rtexts rows)) (d (rtexts rows)) = true := by
    simp only [Dt.d, PyData.eqv]
    have := eqvAll_strs (rtexts rows) (rtexts rows)
    rw [decide_eq_true rfl] at this
    exact this
  have l : ∀ z : List Pt, PyData.canLay0 (d z) = true := fun z => Dq.lay z
  have dp : ∀ z : List Pt, (d z).depth ≤ 2 := fun z => Dq.depth z
  have e : ∀ z : List Pt, PyData.eqv (d z) (d z) = true := fun z => by rw [Dq.eqv]; exact decide_eq_true rfl
  constructor
  · unfold SeqAt.shaped
    have da := dp a
    have db := dp b
    have dc := dp c
    have hd : (PyData.list [d (rtexts rows), d a, d b, d c]).depth ≤ 64 := by
      simp only [PyData.depth, PyData.depthAll]
      omega
    rw [decide_eq_true hd, Bool.and_true]
    simp only [PyData.canLay0, PyData.canLayAll0, h1, l, Bool.and_self]
  · simp only [PyData.eqv, PyData.eqvAll, h3, e, Bool.and_self]
theorem ev_none_true {K : PySem.W.Frag} {σ : St} {F : Hp} {te : TE} {T : List (Addr × Str)} (h : Ev T te σ F (PyData.list [.none, .bool true])) : Ev T (tOp (rEqD K) te (tLst (tCons (tC .non) (tCons (tC (.bl true)) tNil)))) σ F true :=
  ev_eq (ev_eqX (x := PyData.list [.none, .bool true]) (y := PyData.list [.none, .bool true]) h (ev_lst (ea_cons ev_none (ea_cons ev_bool ea_nil)) (by show 2 ≤ 1000; decide)) (by decide) (by decide)) (by decide)
theorem hasD_pt (f : Fl) (p : Pt) : hasD f (d p) = inK f p := by
  unfold hasD
  rw [place_of, ptD_of, Bool.true_and]
theorem pt_inj {p q : Pt} (e : (d p : PyData) = d q) : p = q := by
  have z : PyData.tuple [.int p.1, .int p.2] = .tuple [.int q.1, .int q.2] := e
  simp only [PyData.tuple.injEq, List.cons.injEq, PyData.int.injEq, and_true] at z
  exact Prod.ext z.1 z.2
end Tf

/-! Within an except suite: a comprehension that knows which exception is handled. -/
namespace Tf
open PySem PySem.Spec PyProof.Rows L2 Dt
section
variable {X : Cx}
theorem pe_lcHP {elt tg iter : Expr} {ifs : List Expr} {scope : Scope} {own : List (Str × Nat)} {pos : Pos} {wi : TI} {g : TG} {tt : TT} {te : TE} (p : Addr × Obj) (hot : L2H.Hot1 X.A p) (hp : p ∈ X.pn) (hN : X.N.Nodup) (hi : L2H.PIH X tg iter wi) (ok : BlkOk X.N X.env.scope scope own)
    (hg : ∀ (s : Shared) (H : Hp) (C : Addr) (cl : List (Str × Addr)) (fp : List Addr), PG (hotB X s H scope (compEnvC scope cl C X.env) fp p) tg g) (ht : ∀ (s : Shared) (H : Hp) (C : Addr) (cl : List (Str × Addr)) (fp : List Addr), PTs (hotB X s H scope (compEnvC scope cl C X.env) fp p) ifs tt)
    (he : ∀ (s : Shared) (H : Hp) (C : Addr) (cl : List (Str × Addr)) (fp : List Addr), PE (hotB X s H scope (compEnvC scope cl C X.env) fp p) elt te) (hs : ∀ x, foldedSetIterable iter X.env x = pure x := by intro _; rfl) :
    PE X (.ListComp elt [⟨tg, iter, ifs, 0⟩] scope pos) (tLc wi g tt te (own.map (·.2))) := by
  refine ⟨fun pins s σ H Q I h => ?_⟩
  have hfree : ∀ y ∈ scope.names, y.2 = .free → ∃ c, X.env.cells.lookup y.1 = some c := fun y hy q => by
    rcases ok.free y hy q with z | z
    · exact I.ok.has _ (.inl z)
    · exact I.ok.has _ (.inr z)
  rw [eval_ListComp]
  refine wpAny_comprehension_free (use := none) rfl hs (closure_ok hfree) ok.kind (fun y hy q => by rw [ok.uniq y hy, q]) (thn (hi.run pins s σ H _ I h) fun xv s1 hx => thn hx fun itv s2 h2 => ?_)
  obtain ⟨it, fp, tn, J, H2, rfl, I2, t, st2, f2, q⟩ := h2
  refine wpAny_newObj_type (newEnv_comp ?_) (by show 0 ≤ sizeLine; decide)
  have hDn : H2 s2.heap.objs.size = none := I2.hok.fresh (Nat.le_refl _)
  have kp : ∀ b o, s2.heap.get? b = some o → (s2.heap.push { cls := .type "list", data := .seq ([] : List Value).toArray }).get? b = some o := fun b o z => Heap.get?_push_of_some _ z
  have I3 : Inv X pins σ (upd H2 s2.heap.objs.size (.lst [])) { s2 with heap := s2.heap.push { cls := .type "list", data := .seq ([] : List Value).toArray } } :=
    I2.laid (t' := s2.toks) kp (Nat.le_refl _) ⟨Nat.zero_le _, [], 0, .nil, Heap.get?_push_size _ rfl⟩
  have sz : ∀ b ∈ fp, b < s2.heap.objs.size := fun b hb => by
    obtain ⟨o, z, _⟩ := t.obj _ _ st2 b hb
    exact Heap.lt_size z
  have f3 : ∀ b ∈ fp, FpOk X pins (upd H2 s2.heap.objs.size (.lst [])) b ∧ b < (s2.heap.push { cls := .type "list", data := .seq ([] : List Value).toArray }).objs.size := fun b hb => by
    have hlt := sz b hb
    refine ⟨⟨?_, (f2 b hb).2⟩, by rw [Heap.size_push]; exact Nat.lt_succ_of_lt hlt⟩
    rw [upd_ne (Nat.ne_of_lt hlt)]
    exact (f2 b hb).1
  have st3 : tn 0 (s2.heap.push { cls := .type "list", data := .seq ([] : List Value).toArray }) := t.keep _ _ _ st2 fun b _ o z => kp b o z
  have bg := begun_of hN ok I3 t.keep st3 f3
  obtain ⟨W, ⟨m0, w0⟩, turn⟩ := q _ hDn
  have P3 := I3.pin p (List.mem_append_left _ hp)
  have nst : p.1 ∉ frs X.stack := fun z => by
    rcases List.mem_cons.mp (I3.stkSub p.1 z) with z | z
    · exact P3.2.2.1 z
    · exact P3.2.2.2.1 z
  generalize hs3 : ({ s2 with heap := s2.heap.push { cls := .type "list", data := .seq ([] : List Value).toArray } } : Shared) = s3 at I3 bg P3 ⊢
  generalize hH3 : upd H2 s2.heap.objs.size (.lst []) = H3 at I3 bg P3 w0
  have I4 : Inv (hotB X s3 H3 scope (compEnvC scope (cellsFrom (s3.heap.objs.size + 1) scope.names (cloFrom X.env.cells scope.names [])) s3.heap.objs.size X.env) fp p) [] (wipe σ (own.map (·.2))) H3 _ := Inv.hot bg.inv ⟨bg.keep _ _ P3.1, P3.2.1, Nat.ne_of_lt (Heap.lt_size P3.1), nst, P3.2.2.2.2⟩
  have hotY : L2H.HotC (hotB X s3 H3 scope (compEnvC scope (cellsFrom (s3.heap.objs.size + 1) scope.names (cloFrom X.env.cells scope.names [])) s3.heap.objs.size X.env) fp p) := ⟨p, hot, List.mem_singleton.mpr rfl⟩
  have lp : codeAny (model X.prog X.w) X.A (.compLoop (.ListComp elt [⟨tg, iter, ifs, 0⟩] scope pos) 0 (.ref it) (.ref s2.heap.objs.size) (compEnvC scope (cellsFrom (s3.heap.objs.size + 1) scope.names (cloFrom X.env.cells scope.names [])) s3.heap.objs.size X.env)) (compPost (model X.prog X.w) X.A X.xe none (EP X pins σ Q) (.ref s2.heap.objs.size) s3.heap.objs.size) { s3 with heap := pushCells (s3.heap.push { cls := .type "dict", data := .dict #[] }) scope.names } := by
    refine blk_loop (X := hotB X s3 H3 scope _ fp p) (ps := []) (σ0 := σ) (Inner := addTo elt (.ref s2.heap.objs.size) _) rfl rfl turn_l1 (turnX_hot t rfl rfl rfl hotY) rfl (hg s3 H3 _ _ fp) (ht s3 H3 _ _ fp) W (fun H' => Q (.ref s2.heap.objs.size) H') (bApp te s2.heap.objs.size) turn ?_ ?_ ?_ I4 bg.st bg.free w0
    · intro Nx pl σ2 H4 s5 I5 hw b
      exact add_run (X := hotB X s3 H3 scope _ fp p) rfl (he s3 H3 _ _ fp) I5 hw b
    · intro H' s' I' q
      obtain ⟨I7, m, hn, f0, f1, f2, f3, f4, f5⟩ := bg.leave _ _ _ (Inv.unhot I')
      exact ⟨m, hn, fun h'' sb => ⟨.ref s2.heap.objs.size, H', I7.turned (t' := s'.toks) (fun b o hb z => (sb.2 b hb).trans z) f0 f1 f3 f4 f5, rfl, q⟩⟩
    · intro H' hn b hb
      obtain ⟨k0, k1, k2, k3, k4, k5⟩ := bg.fpok H' hn b hb
      refine ⟨k0, k1, k2, k3, k4, fun q hq => ?_⟩
      have e : q = p := by simpa using (show q ∈ [p] ++ ([] : List (Addr × Obj)) from hq)
      subst e
      exact (f2 b hb).2.2.2.2.2 q (List.mem_append_left _ hp)
  exact codeAny_compStart_list lp (t.self X.A 0 _ _ _ bg.st lp)
end
/-! ### try .. except X as n -/
/-- where a handler leads, its name gone -/
def goneR (i : Nat) (R : Out → Prop) : Out → Prop
  | .nx Γ => R (.nx (Γ.set i .no))
  | .bk Γ => R (.bk (Γ.set i .no))
  | .ct Γ => R (.ct (Γ.set i .no))
  | .rt n e Γ => R (.rt n e Γ)
  | .ex c => R (.ex c)
/-- what a body may lead to: R, or one of the errors that the handler takes -/
def tryR (C : Str → Prop) (R : Out → Prop) : Out → Prop
  | .ex c => C c
  | o => R o
section
variable {T : List (Addr × Str)} {K : PySem.W.Frag} {E : XK} {Γ Δ : List Sl} {R : Out → Prop} {te tb' : TE}
theorem ok_raw {T : List (Addr × Str)} {F0 F' H0 H' : Hp} {σ' : St} {i n : Nat} {a : Addr} (st : Step T F0 F' H0 H') (hl : σ'.length = n) : Ok T F0 H0 F' H' (σ'.set i (some (.ref a))) ((List.replicate n Sl.no).set i (.raw (.ref a))) := by
  have none_ : ∀ (j : Nat) (s : Sl), ((List.replicate n Sl.no).set i (.raw (.ref a)))[j]? = some s → s = .no ∨ (j = i ∧ s = .raw (.ref a)) := fun j s h => by
    rcases get_set h with ⟨rfl, hl, z⟩ | ⟨m, z⟩
    · exact .inr ⟨rfl, z⟩
    · rw [List.getElem?_replicate] at z
      split at z
      · exact .inl (Option.some.inj z).symm
      · cases z
  refine ⟨st, by simp [hl], fun j e h => ?_, fun j p e h => ?_, fun j v h => ?_, fun j K' ns h => ?_, fun j k p e e' h _ => ?_⟩
  · rcases none_ j _ h with z | ⟨_, z⟩ <;> cases z
  · rcases none_ j _ h with z | ⟨_, z⟩ <;> cases z
  · rcases none_ j _ h with z | ⟨rfl, z⟩
    · cases z
    · cases z
      have hj := (List.getElem?_eq_some_iff.mp h).1
      rw [List.getElem?_set_self (by rw [hl]; simpa using hj)]
  · rcases none_ j _ h with z | ⟨_, z⟩ <;> cases z
  · rcases none_ j _ h with z | ⟨_, z⟩ <;> cases z
theorem r_try_as {i n : Nat} {cv : Value} {tb : WX → TS} {ts : Addr → Value → Option Addr → TS} {Wout : WX} (C : Str → Prop) (hn : Γ.length = n) (body : ∀ W : WX, Run T K (fun cls dd H => ∀ σ : St, σ.length = n → W cls dd σ H) Γ (tb W) (tryR C R))
    (exm : ∀ c, C c → PySem.W.exmOne K (.ref (He.ga K c)) cv = some true) (hand : ∀ c a, C c → Run T K E ((List.replicate n Sl.no).set i (.raw (.ref a))) (ts a (.ref (He.ga K c)) none) (goneR i R)) :
    Run T K E Γ (fun D σ H => tb (L2.wAs K cv i ts Wout D) D σ H) R := fun F0 H0 F H σ D o f => by
  refine body _ F0 H0 F H σ D o ⟨f.nx, f.bk, f.ct, f.rt, fun c F' H' hc l st σ' hl => ?_⟩
  have hc' : C c := hc
  refine ⟨true, exm c hc', fun _ a ha => ?_, fun z => nomatch z⟩
  exact hand c a hc' F0 H0 F' H' _ _ (ok_raw st hl) ⟨fun Γ2 σ2 F2 H2 r l2 o2 => f.nx _ _ F2 H2 r (l.trans l2) o2.forget, fun Γ2 σ2 F2 H2 r l2 o2 => f.bk _ _ F2 H2 r (l.trans l2) o2.forget, fun Γ2 σ2 F2 H2 r l2 o2 => f.ct _ _ F2 H2 r (l.trans l2) o2.forget,
    fun m e Γ2 σ2 F2 H2 v r l2 o2 rv z => f.rt m e Γ2 σ2 F2 H2 v r (l.trans l2) o2 rv z, fun c F2 H2 r l2 st2 => f.ex c F2 H2 r (l.trans l2) st2⟩
theorem r_some {ι : Type} {P : ι → Prop} {t : ι → TS} (c : ι) (hc : P c) (h : Run T K E Γ (t c) R) : Run T K E Γ (fun D σ H => ∃ c, P c ∧ t c D σ H) R := fun F0 H0 F H σ D o f => ⟨c, hc, h F0 H0 F H σ D o f⟩
theorem ex_alone {i : Nat} {a : Addr} {oe : Obj} {c : Str} {k : Int} {X : XK} (h : Δ[i]? = some (.raw (.ref a))) (hb : Ex (tabs K) Δ tb' (d k)) (hk : 0 ≤ k ∧ k ≤ 8) : Ex (tabs K) Δ (tCall (sp_alone K (a, oe) c) [] X (tCons (tVar i) (tCons tb' tNil))) (d (decide (markNames[k.toNat]? = some c))) := fun σ F s H su t Q q => ⟨_, s.raw i _ h, hb σ F s H su t _ fun v F1 H1 s1 r => by
  cases rv_int r
  exact ⟨F1, k, rfl, hk.1, hk.2, s1.sub, s1.tab, fun v F2 H2 s2 r2 => q v F2 H2 (s1.trans s2) r2⟩⟩
/-! ### the making of a Floor -/
variable {CC : XK}
theorem ex_make {rows : List Str} (h : Ex (tabs K) Δ te (d rows)) (ok : okRows (d rows)) (hj : judgeD (d rows) = none) : Ex (tabs K) Δ (tMake (He.ga K "Floor") (sp_Floor_m_init K) [] CC (tCons te tNil)) (d (flOf (He.ga K "Floor") rows)) := fun σ F s H su t Q q => h σ F s H su t _ fun v F1 H1 st r => fun x dx hx hdx ne =>
  ⟨F1, H1, x, dx, v, d rows, rfl, rfl, hx, hdx, ne, st.sub, st.tab, r, ok, fun (c : String) hc => (by rw [hj] at hc; cases hc), fun rows' e _ F' H' s2 r2 fn => ⟨rfl, by
    have e' := texts_inj e
    subst e'
    exact q _ F' H' (st.trans s2) r2⟩⟩
theorem er_make {x : PyData} {c : Str} {c0 : String} (h : Ex (tabs K) Δ te x) (ok : okRows x) (hj : judgeD x = some c0) (hc : (Str.ofString c0) = c) : Er (tabs K) K CC Δ (tMake (He.ga K "Floor") (sp_Floor_m_init K) [] CC (tCons te tNil)) c := fun σ F s H su t z Q => h σ F s H su t _ fun v F1 H1 st r => fun y dx hy hdx ne =>
  ⟨F1, H1, y, dx, v, x, rfl, rfl, hy, hdx, ne, st.sub, st.tab, r, ok, fun c' hc' H' s2 => by
    rw [hj] at hc'
    cases hc'
    rw [← hc] at z
    exact z F1 H' (st.trans s2), fun rows' e hn => (by rw [hj] at hn; cases hn)⟩
theorem er_meth0 {C : Addr} {m c : Str} {sp : Sp} {CC : XK} (h : Er T K E Δ te c) : Er T K E Δ (tMeth C m sp [] CC te tNil) c := fun σ F s H su t z Q => h σ F s H su t z _
end
end Tf

/-! A cell more is covered, or cells fall short: the search; the specs of it. -/
namespace Tf
open PySem PySem.Spec PyProof.Rows L2 Dt
/-! ### ghosts in specs -/
section
variable {T : List (Addr × Str)} {α β γ ν : Type} {F0 H0 F H F' H' G F3 H2 : Hp} {σ σ' : St} {Γ Γ' Δ : List Sl} {te ta tb : TE} {tr : TA} {tt c : TT} {t u tbd : TS} {g : TG} {K : PySem.W.Frag} {E : XK} {e e' r : PyData} {es : List PyData} {D : Ends} {R R' : Out → Prop} {i j k : Nat} {p : Addr} {n m : Bool} {wi : TI}
def PuMG (T : List (Addr × Str)) (j : Nat) (n : Bool) (pre : γ → List PyData → PyData → Prop) (post : γ → List PyData → PyData → PyData → PyData → Prop) : Sp := fun vs H Q X => ∃ g, PuM T j n (pre g) (post g) vs H Q X
def PuDG (T : List (Addr × Str)) (n : Bool) (pre : γ → List PyData → Prop) (post : γ → List PyData → PyData → Prop) : Sp := fun vs H Q X => ∃ g, PuD T n (pre g) (post g) vs H Q X
variable {pre : γ → List PyData → PyData → Prop} {post : γ → List PyData → PyData → PyData → PyData → Prop} {pre1 : γ → List PyData → Prop} {post1 : γ → List PyData → PyData → Prop}
theorem em_callG0 {X : XK} (q : γ) (h : Γ[i]? = some (Sl.ow p e)) (ha : Ea T (see (Γ.set i .no)) tr es) (Pj : pre q es e) (ft : ∀ e' r, post q es e e' r → flat e' = true ∧ tame n r = true) : Em T Γ (tCall (PuMG T 0 n pre post) [] X (tCons (tVar i) tr)) (after Γ i p es e (post q)) := fun F0 H0 F H σ o Q k => by
  obtain ⟨h1, h2, h3, h4⟩ := o.ow i p e h
  have oi : Ok T F0 H0 F H σ (Γ.set i .no) := o.less ⟨by simp, fun j s z => by
    rcases get_set z with ⟨_, _, y⟩ | ⟨n, y⟩
    · exact .inl y
    · exact .inr y⟩
  refine ⟨_, h1, ha σ _ oi.toSee H oi.seeSub o.st.tab _ fun ws G' H1 s1 rw_ => ⟨q, ?_⟩⟩
  have z := em_core (X := X) (j := 0) (ws := ws) h ft Pj o s1 rw_ (Nat.zero_le _) k
  show PuM T 0 n (pre q) (post q) ((.ref p :: ws) ++ []) H1 Q X
  rw [List.append_nil]
  exact z
theorem em_callG1 {X : XK} {x : PyData} (q : γ) (h : Γ[i]? = some (Sl.ow p e)) (hx : Ex T (see (Γ.set i .no)) ta x) (ha : Ea T (see (Γ.set i .no)) tr es) (Pj : pre q (x :: es) e) (ft : ∀ e' r, post q (x :: es) e e' r → flat e' = true ∧ tame n r = true) : Em T Γ (tCall (PuMG T 1 n pre post) [] X (tCons ta (tCons (tVar i) tr))) (after Γ i p (x :: es) e (post q)) := fun F0 H0 F H σ o Q k => by
  obtain ⟨h1, h2, h3, h4⟩ := o.ow i p e h
  have oi : Ok T F0 H0 F H σ (Γ.set i .no) := o.less ⟨by simp, fun j s z => by
    rcases get_set z with ⟨_, _, y⟩ | ⟨n, y⟩
    · exact .inl y
    · exact .inr y⟩
  refine hx σ _ oi.toSee H oi.seeSub o.st.tab _ fun v G1 H1 s1 rv => ⟨_, h1, ha σ G1 (oi.toSee.mono s1.ff) H1 s1.sub s1.tab _ fun ws G' H2 s2 rw_ => ⟨q, ?_⟩⟩
  have z := em_core (X := X) (j := 1) (ws := v :: ws) h ft Pj o (s1.trans s2) (.cons (rv.mono s2.ff) rw_) (Nat.succ_le_succ (Nat.zero_le _)) k
  show PuM T 1 n (pre q) (post q) ((v :: .ref p :: ws) ++ []) H2 Q X
  rw [List.append_nil]
  exact z
theorem len_puMG {vs : List V} {Q : VK} {a : Nat} (h : PuMG T j n pre post vs H Q E) (ha : ∀ g es e, pre g es e → es.length = a) : vs.length = a + 1 := by
  obtain ⟨g, h⟩ := h
  exact len_puM (ha g) h
theorem len_puDG {vs : List V} {Q : VK} {a : Nat} (h : PuDG T n pre1 post1 vs H Q E) (ha : ∀ g es, pre1 g es → es.length = a) : vs.length = a := by
  obtain ⟨g, h⟩ := h
  exact len_puD (ha g) h
theorem run_puMG {N : List Str} {vs : List V} {Q : VK} (k a : Nat) (h : PuMG T j n pre post vs H Q E) (ha : ∀ g es e, pre g es e → es.length = a) (hN : N.length = a + 1 + k)
    (run : ∀ g es e p, pre g es e → Run T K E ((es.take j).map Sl.sh ++ Sl.ow p e :: ((es.drop j).map Sl.sh ++ List.replicate k .no)) t (resM j p n (post g es e))) : t { nx := fun _ H' => Q .non H', rt := Q } (L2.start N vs) H := by
  obtain ⟨g, h⟩ := h
  exact run_puM k a h (ha g) hN (run g)
theorem run_puDG {N : List Str} {vs : List V} {Q : VK} (k a : Nat) (h : PuDG T n pre1 post1 vs H Q E) (ha : ∀ g es, pre1 g es → es.length = a) (hN : N.length = a + k)
    (run : ∀ g es, pre1 g es → Run T K E (es.map Sl.sh ++ List.replicate k .no) t (resD n (post1 g es))) : t { nx := fun _ H' => Q .non H', rt := Q } (L2.start N vs) H := by
  obtain ⟨g, h⟩ := h
  exact run_puD k a h (ha g) hN (run g)
theorem ed_callG {X : XK} (g : γ) (ha : Ea T Δ tr es) (hp : pre1 g es) : Ed T Δ (tCall (PuDG T n pre1 post1) [] X tr) n (post1 g es) := fun σ F s H su t Q q => ha σ F s H su t _ fun vs F1 H1 s1 rv => ⟨g, F1, es, s1.sub, s1.tab, by rw [List.append_nil]; exact rv, hp, fun r hr v F2 H2 s2 r2 z => q r hr v F2 H2 (s1.trans s2) r2 fun hn p y => s1.ext.live p (z hn p y)⟩
/-- a for whose turns may end it; what is invariant is told by a ghost -/
theorem r_forG {τ : Type} {_ : Dt α} {xs : List α} (env : τ → List Sl) (Inv : Nat → τ → Prop) (s0 : τ) (h : Ei T (hid Γ) wi (xs.map d)) (h0 : LessL Γ (env s0)) (i0 : Inv 0 s0)
    (turn : ∀ (i : Nat) (x : α) (s : τ), xs[i]? = some x → Inv i s → ∃ bs, Bd g (d x) bs ∧ Run T K E (setsG (env s) bs) tbd (turnR (fun Γ' => ∃ s', Inv (i + 1) s' ∧ LessL Γ' (env s')) R))
    (done : ∀ s, Inv xs.length s → R (.nx (env s))) : Run T K E Γ (tFor wi g tbd) R := by
  refine r_for (fun i Γ' => ∃ s, Less Γ' (env s) ∧ Inv i s) h ⟨s0, less_of h0, i0⟩ (fun i x Γ' hx ⟨s, l, hi⟩ => ?_) fun Γ' ⟨s, l, hi⟩ => ⟨_, l, done s hi⟩
  obtain ⟨bs, b, run⟩ := turn i x s hx hi
  refine ⟨bs, b, r_less l.sets (run.mono fun o r => ?_)⟩
  cases o with
  | nx Γ2 => exact r.imp fun s' z => ⟨less_of z.2, z.1⟩
  | ct Γ2 => exact r.imp fun s' z => ⟨less_of z.2, z.1⟩
  | bk Γ2 => exact r
  | rt n e Γ2 => exact r
  | ex c => exact r
end
/-! ### the search -/
theorem keys_put_new {ν : Type} {D : Dc ν} {k : Pt} {x : ν} (h : k ∉ D.keys) : (D.put k x).keys = D.keys ++ [k] := by
  have n : ¬ (D.l.any fun q => decide (q.1 = k)) = true := fun z => by
    obtain ⟨a, ha, he⟩ := List.any_eq_true.mp z
    exact h (List.mem_map.mpr ⟨a, ha, of_decide_eq_true he⟩)
  unfold Dc.put Dc.keys
  simp only [if_neg n, List.map_append, List.map_cons, List.map_nil]
structure Srch (cells : List Pt) (D : Dc Pt) (start : Pt) (R : Dc Pt) (A : List Pt) : Prop where
  half : Half cells D
  st : D.get start = none
  nd : A.Nodup
  col : ∀ x ∈ A, isDark x = isDark start ∧ x ∈ cells
  src : start ∈ A
  pr : ∀ x ∈ A, x = start ∨ ∃ o ∈ R.keys, D.get o = some x
  cov : ∀ o ∈ R.keys, o ∈ cells ∧ ∃ x, D.get o = some x ∧ x ∈ A
  chn : Chn cells D start R
theorem srch_first {cells : List Pt} {D : Dc Pt} {start : Pt} (h : Half cells D) (s : D.get start = none) (c : start ∈ cells) : Srch cells D start ⟨[]⟩ [start] :=
  ⟨h, s, by simp, fun x hx => by rw [List.mem_singleton.mp hx]; exact ⟨rfl, c⟩, by simp, fun x hx => .inl (List.mem_singleton.mp hx), fun o ho => by simp [Dc.keys] at ho, ⟨by simp [Dc.keys], fun i o ho => by simp [Dc.keys] at ho⟩⟩
/-- a place is reached -/
theorem chn_put {cells : List Pt} {D : Dc Pt} {start : Pt} {R : Dc Pt} {A : List Pt} (h : Srch cells D start R A) {c o : Pt} (hc : c ∈ A) (ho : o ∈ beside4 c) (oc : o ∈ cells) (n : o ∉ R.keys) : Chn cells D start (R.put o c) := by
  have e := keys_put_new (x := c) n
  refine ⟨by
    rw [e]
    exact List.nodup_append.mpr ⟨h.chn.nd, by simp, fun a ha b hb z => n (by rw [List.mem_singleton.mp hb] at z; rw [← z]; exact ha)⟩, fun i q hq => ?_⟩
  rw [e] at hq
  rcases Nat.lt_trichotomy i R.keys.length with l | l | l
  · rw [List.getElem?_append_left l] at hq
    obtain ⟨t, h1, h2, h3, h4, h5, h6⟩ := h.chn.step i q hq
    have qn : q ≠ o := fun z => n (by rw [← z]; exact List.mem_of_getElem? hq)
    refine ⟨t, by rw [Dc.get_put, if_neg qn]; exact h1, h2, h3, h4, h5, h6.imp id fun ⟨j, o', a, b, d⟩ => ⟨j, o', a, by rw [e, List.getElem?_append_left (by omega)]; exact b, d⟩⟩
  · subst l
    rw [List.getElem?_append_right (Nat.le_refl _), Nat.sub_self] at hq
    have : o = q := by simpa using hq
    subst this
    refine ⟨c, Dc.get_same .., ho, (h.col c hc).2, oc, (h.col c hc).1, ?_⟩
    rcases h.pr c hc with z | ⟨o', a, b⟩
    · exact .inl z
    · obtain ⟨j, hj⟩ := List.getElem?_of_mem a
      have lj := (List.getElem?_eq_some_iff.mp hj).1
      exact .inr ⟨j, o', lj, by rw [e, List.getElem?_append_left lj]; exact hj, b⟩
  · rw [List.getElem?_append_right (by omega)] at hq
    have : (i - R.keys.length) = (i - R.keys.length - 1) + 1 := by omega
    rw [this] at hq
    simp at hq
theorem srch_more {cells : List Pt} {D : Dc Pt} {start : Pt} {R : Dc Pt} {A B : List Pt} (h : Srch cells D start R A) {c o x : Pt} (hc : c ∈ A) (ho : o ∈ beside4 c) (oc : o ∈ cells) (n : o ∉ R.keys) (hx : D.get o = some x) (hB : List.Perm B (x :: A)) : Srch cells D start (R.put o c) B := by
  have e := keys_put_new (x := c) n
  have xo : D.get x = some o := h.half.sym o x hx
  have xn : x ∉ A := fun z => by
    rcases h.pr x z with y | ⟨o', a, b⟩
    · rw [y, h.st] at xo
      cases xo
    · have := h.half.sym o' x b
      rw [xo] at this
      exact n (by rw [Option.some.inj this]; exact a)
  have bx := h.half.bes o x hx
  refine ⟨h.half, h.st, hB.nodup_iff.mpr (List.nodup_cons.mpr ⟨xn, h.nd⟩), fun y hy => ?_, hB.mem_iff.mpr (List.mem_cons_of_mem _ h.src), fun y hy => ?_, fun q hq => ?_, chn_put h hc ho oc n⟩
  · rcases List.mem_cons.mp (hB.mem_iff.mp hy) with z | z
    · rw [z]
      exact ⟨by rw [beside_dark bx, beside_dark ho, (h.col c hc).1, Bool.not_not], h.half.mem x o xo⟩
    · exact h.col y z
  · rcases List.mem_cons.mp (hB.mem_iff.mp hy) with z | z
    · exact .inr ⟨o, by rw [e]; simp, by rw [z]; exact hx⟩
    · exact (h.pr y z).imp id fun ⟨o', a, b⟩ => ⟨o', by rw [e]; exact List.mem_append_left _ a, b⟩
  · rw [e] at hq
    rcases List.mem_append.mp hq with z | z
    · obtain ⟨a, y, b, d⟩ := h.cov q z
      exact ⟨a, y, b, hB.mem_iff.mpr (List.mem_cons_of_mem _ d)⟩
    · rw [List.mem_singleton.mp z]
      exact ⟨oc, x, hx, hB.mem_iff.mpr (by simp)⟩
theorem Srch.perm {cells : List Pt} {D : Dc Pt} {start : Pt} {R : Dc Pt} {A B : List Pt} (h : Srch cells D start R A) (p : List.Perm B A) : Srch cells D start R B :=
  ⟨h.half, h.st, p.nodup_iff.mpr h.nd, fun x hx => h.col x (p.mem_iff.mp hx), p.mem_iff.mpr h.src, fun x hx => h.pr x (p.mem_iff.mp hx), fun o ho => (h.cov o ho).imp id fun ⟨x, a, b⟩ => ⟨x, a, p.mem_iff.mpr b⟩, h.chn⟩
/-- cells of one colour that fall short -/
structure Short (cells some' : List Pt) : Prop where
  ne : some' ≠ []
  nd : some'.Nodup
  sub : ∀ x ∈ some', x ∈ cells
  col : ∀ x ∈ some', ∀ y ∈ some', isDark x = isDark y
  few : ∀ N : List Pt, N.Nodup → (∀ o ∈ N, o ∈ cells ∧ ∃ x ∈ some', o ∈ beside4 x) → N.length < some'.length
theorem sub_len {α : Type} [DecidableEq α] {l m : List α} (h : l.Nodup) (s : ∀ x ∈ l, x ∈ m) : l.length ≤ m.length := by
  induction l generalizing m with
  | nil => simp
  | cons a l ih =>
    obtain ⟨h1, h2⟩ := List.nodup_cons.mp h
    have ha := s a List.mem_cons_self
    have := ih (m := m.erase a) h2 fun x hx => (List.mem_erase_of_ne (fun e : x = a => h1 (by rw [← e]; exact hx))).mpr (s x (List.mem_cons_of_mem _ hx))
    rw [List.length_erase_of_mem ha] at this
    have pos : 0 < m.length := List.length_pos_of_mem ha
    simp only [List.length_cons]
    omega
theorem srch_done {cells : List Pt} {D : Dc Pt} {start : Pt} {R : Dc Pt} {A : List Pt} (h : Srch cells D start R A) (all : ∀ x ∈ A, ∀ o ∈ beside4 x, o ∈ cells → o ∈ R.keys) : Short cells A := by
  refine ⟨fun z => by have := h.src; rw [z] at this; simp at this, h.nd, fun x hx => (h.col x hx).2, fun x hx y hy => (h.col x hx).1.trans (h.col y hy).1.symm, fun N nd hN => ?_⟩
  have l1 : N.length ≤ R.keys.length := sub_len nd fun o ho => by
    obtain ⟨a, x, b, e⟩ := hN o ho
    exact all x b o e a
  have l2 : ((some start) :: R.keys.map D.get).length ≤ (A.map some).length := by
    refine sub_len (List.nodup_cons.mpr ⟨fun z => ?_, ?_⟩) fun y hy => ?_
    · obtain ⟨o, ho, e⟩ := List.mem_map.mp z
      have := h.half.sym o start e
      rw [h.st] at this
      cases this
    · refine List.pairwise_map.mpr (List.Pairwise.imp_of_mem (fun {a b} ha hb n e => n ?_) h.chn.nd)
      obtain ⟨_, x, hx, _⟩ := h.cov a ha
      have h1 := h.half.sym a x hx
      have h2 := h.half.sym b x (by rw [← e]; exact hx)
      rw [h1] at h2
      exact Option.some.inj h2
    · rcases List.mem_cons.mp hy with z | z
      · rw [z]
        exact List.mem_map.mpr ⟨start, h.src, rfl⟩
      · obtain ⟨o, ho, e⟩ := List.mem_map.mp z
        obtain ⟨_, x, hx, hA⟩ := h.cov o ho
        exact List.mem_map.mpr ⟨x, hA, by rw [← e, hx]⟩
  simp only [List.length_cons, List.length_map] at l2
  omega
end Tf

/-! Tuples that are told with new lists in them, and these emptied. -/
namespace Tf
open PySem PySem.Spec PyProof.Rows L2 Dt
/-- v is a tuple of F', and whatever it holds is new -/
def Deep (F' H0 : Hp) (v : V) : Prop := ∃ (t : Addr) (us : List V), v = .ref t ∧ F' t = some (.tup us) ∧ ∀ q, V.ref q ∈ us → H0 q = none
def RunP (T : List (Addr × Str)) (K : PySem.W.Frag) (E : XK) (Γ : List Sl) (t : TS) (R : Out → Prop) (P : PyData → Prop) : Prop := ∀ (F0 H0 F H : Hp) (σ : St) (D : Ends), Ok T F0 H0 F H σ Γ → Fin T K E F0 H0 F D R →
  (∀ e Γ' σ' F' H' v, P e → Same F F' → Ok T F0 H0 F' H' σ' Γ' → Rv F' v e → Deep F' H0 v → D.rt v H') → t D σ H
def PuT {γ : Type} (T : List (Addr × Str)) (pre : γ → List PyData → Prop) (post : γ → List PyData → PyData → Prop) : Sp := fun vs H Q _ => ∃ (g : γ) (F : Hp) (es : List PyData), Sub F H ∧ LamX.Tabs T H ∧ RvL F vs es ∧ pre g es ∧ ∀ r, post g es r → ∀ v F' H', Step T F F' H H' → Rv F' v r → Deep F' H v → Q v H'
/-- arguments whose lists are new -/
def EaN (T : List (Addr × Str)) (Δ : List Sl) (ta : TA) (es : List PyData) : Prop := ∀ (σ : St) (F : Hp), Sh F σ Δ → ∀ H, Sub F H → LamX.Tabs T H → ∀ Q : List V → Hp → Prop, (∀ vs F' H', Step T F F' H H' → RvL F' vs es → (∀ q, V.ref q ∈ vs → H q = none) → Q vs H') → ta σ H Q
section
variable {T : List (Addr × Str)} {α β γ ν : Type} {F0 H0 F H F' H' G F3 H2 : Hp} {σ σ' : St} {Γ Γ' Δ : List Sl} {te ta tb : TE} {tr : TA} {tt c : TT} {t u tbd : TS} {g : TG} {K : PySem.W.Frag} {E : XK} {e e' r : PyData} {es : List PyData} {D : Ends} {R R' : Out → Prop} {i j k : Nat} {p : Addr} {n m : Bool} {wi : TI} {P : PyData → Prop} {pre1 : γ → List PyData → Prop} {post1 : γ → List PyData → PyData → Prop} {pd : PyData → Prop}
theorem eaN_nil : EaN T Δ tNil [] := fun σ F s H su t Q q => q [] F H (Step.refl su t) .nil fun q z => by simp at z
theorem eaN_str {x : Str} (hr : EaN T Δ tr es) : EaN T Δ (tCons (tC (.str x)) tr) (d x :: es) := fun σ F s H su t Q q => hr σ F s H su t _ fun vs F' H' st r n => q _ F' H' st (.cons (.str x) r) fun y z => by
  rcases List.mem_cons.mp z with w | w
  · cases w
  · exact n y w
theorem eaN_new (h : ExN T Δ te e) (hr : EaN T Δ tr es) : EaN T Δ (tCons te tr) (e :: es) := fun σ F s H su t Q q => h σ F s H su t _ fun v F1 H1 s1 r1 n1 => hr σ F1 (s.mono s1.ff) H1 s1.sub s1.tab _ fun vs F' H' st r n => q _ F' H' (s1.trans st) (.cons (r1.mono st.ff) r) fun y z => by
  rcases List.mem_cons.mp z with w | w
  · exact n1 y w.symm
  · exact s1.ext.live y (n y w)
theorem rp_of (h : Run T K E Γ t R) : RunP T K E Γ t R P := fun F0 H0 F H σ D o f _ => h F0 H0 F H σ D o f
def sqP (T : List (Addr × Str)) (K : PySem.W.Frag) (E : XK) (u : TS) (R : Out → Prop) (P : PyData → Prop) : Out → Prop
  | .nx Γ => RunP T K E Γ u R P
  | .bk Γ => R (.bk Γ)
  | .ct Γ => R (.ct Γ)
  | .rt n e Γ => R (.rt n e Γ)
  | .ex c => R (.ex c)
theorem rp_seq (h : RunP T K E Γ t (sqP T K E u R P) P) : RunP T K E Γ (tSeq t u) R P := fun F0 H0 F H σ D o f fp => h F0 H0 F H σ _ o ⟨fun Γ' σ' F' H' r l o' => r F0 H0 F' H' σ' D o' (f.shift l) fun e Γ2 σ2 F2 H2 v a b c d x => fp e Γ2 σ2 F2 H2 v a (l.trans b) c d x, f.bk, f.ct, f.rt, f.ex⟩ fp
theorem rp_if {b : Bool} (h : Et T (see Γ) tt b) (h1 : b = true → RunP T K E Γ t R P) (h2 : b = false → RunP T K E Γ u R P) : RunP T K E Γ (tIfS tt t u) R P := fun F0 H0 F H σ D o f fp => o.test h _ fun H' s => by
  cases b with
  | true => exact h1 rfl F0 H0 F H' σ D (o.step s) f fp
  | false => exact h2 rfl F0 H0 F H' σ D (o.step s) f fp
theorem rp_share {p : Addr} (i : Nat) (h : Γ[i]? = some (.ow p e)) (k : RunP T K E (Γ.set i (.sh e)) t R P) : RunP T K E Γ t R P := fun F0 H0 F H σ D o f fp => by
  obtain ⟨F', l, o'⟩ := o.share h
  exact k F0 H0 F' H σ D o' (f.shift l) fun e Γ2 σ2 F2 H2 v a b c d x => fp e Γ2 σ2 F2 H2 v a (l.trans b) c d x
/-- a tuple of new lists is told -/
theorem rp_ret (h : EaN T (hid Γ) tr es) (hl : es.length ≤ 1000) (hp : P (.tuple es)) : RunP T K E Γ (tRet (tTup tr)) R P := fun F0 H0 F H σ D o f fp => h σ F o.toHid H o.st.sub o.st.tab _ fun vs F1 H1 st r n =>
  ⟨Nat.le_trans (by have := r.length; omega) (by decide : 1000 ≤ sizeLine), fun p hp' => by
    have s2 : Step T F1 (upd F1 p (.tup vs)) H1 (upd H1 p (.tup vs)) := .made st.sub st.tab hp' nt_tup
    exact fp (.tuple es) _ σ _ _ (.ref p) hp (st.trans s2).ff ((o.step st).step s2) (.tup upd_same (r.mono s2.ff)) ⟨p, vs, rfl, upd_same, fun q z => o.st.ext.live q (n q z)⟩⟩
theorem rp_for {_ : Dt α} {xs : List α} (I : Nat → List Sl → Prop) (h : Ei T (hid Γ) wi (xs.map d)) (h0 : I 0 Γ)
    (turn : ∀ (i : Nat) (x : α) (Γ' : List Sl), xs[i]? = some x → I i Γ' → ∃ bs, Bd g (d x) bs ∧ RunP T K E (setsG Γ' bs) tbd (turnR (I (i + 1)) R) P) (done : ∀ Γ', I xs.length Γ' → ∃ Γ2, Less Γ' Γ2 ∧ R (.nx Γ2)) : RunP T K E Γ (tFor wi g tbd) R P := fun F0 H0 F H σ D o f fp =>
  s_forX (h σ F o.toHid) o.st (fun i σ' F' H' => ∃ Γ', I i Γ' ∧ Ok T F0 H0 F' H' σ' Γ') (fun F' H' s => ⟨Γ, h0, o.step s⟩)
    (fun i x v σ1 F1 H1 F2 H2 hx l s1 ⟨Γ', hI, o1⟩ s2 rv N hN => by
      obtain ⟨bs, b, run⟩ := turn i x Γ' hx hI
      obtain ⟨ws, h1, h2⟩ := b F2 v rv
      have o2 := o1.step s2
      refine h2 H2 σ1 _ o2.st.sub (run F0 H0 F2 H2 _ _ (o2.sets h1) ⟨fun Γ2 σ3 F3 H3 r l3 o3 => hN σ3 F3 H3 l3 o3.st ⟨Γ2, r, o3⟩, fun Γ2 σ3 F3 H3 r l3 o3 => f.nx Γ2 σ3 F3 H3 r ((l.trans s2.ff).trans l3) o3, fun Γ2 σ3 F3 H3 r l3 o3 => hN σ3 F3 H3 l3 o3.st ⟨Γ2, r, o3⟩,
        fun n e Γ2 σ3 F3 H3 w r l3 o3 r3 z => f.rt n e Γ2 σ3 F3 H3 w r ((l.trans s2.ff).trans l3) o3 r3 z, fun c F3 H3 r l3 st => f.ex c F3 H3 r ((l.trans s2.ff).trans l3) st⟩ fun e Γ2 σ3 F3 H3 w a l3 o3 r3 z => fp e Γ2 σ3 F3 H3 w a ((l.trans s2.ff).trans l3) o3 r3 z))
    fun σ' F' H' l s ⟨Γ', hI, o'⟩ => by
      obtain ⟨Γ2, l2, r⟩ := done Γ' hI
      exact f.nx Γ2 σ' F' H' r l (o'.less l2)
theorem RunP.mono (h : RunP T K E Γ t R P) (i : ∀ o, R o → R' o) : RunP T K E Γ t R' P := fun F0 H0 F H σ D o f fp => h F0 H0 F H σ D o ⟨fun Γ σ G H' r => f.nx Γ σ G H' (i _ r), fun Γ σ G H' r => f.bk Γ σ G H' (i _ r), fun Γ σ G H' r => f.ct Γ σ G H' (i _ r),
  fun n e Γ σ G H' v r => f.rt n e Γ σ G H' v (i _ r), fun c F' H' r => f.ex c F' H' (i _ r)⟩ fp
theorem rp_less (l : Less Γ Γ') (h : RunP T K E Γ' t R P) : RunP T K E Γ t R P := fun F0 H0 F H σ D o f fp => h F0 H0 F H σ D (o.less l) f fp
theorem rp_forG {τ : Type} {_ : Dt α} {xs : List α} (env : τ → List Sl) (Inv : Nat → τ → Prop) (s0 : τ) (h : Ei T (hid Γ) wi (xs.map d)) (h0 : LessL Γ (env s0)) (i0 : Inv 0 s0)
    (turn : ∀ (i : Nat) (x : α) (s : τ), xs[i]? = some x → Inv i s → ∃ bs, Bd g (d x) bs ∧ RunP T K E (setsG (env s) bs) tbd (turnR (fun Γ' => ∃ s', Inv (i + 1) s' ∧ LessL Γ' (env s')) R) P)
    (done : ∀ s, Inv xs.length s → R (.nx (env s))) : RunP T K E Γ (tFor wi g tbd) R P := by
  refine rp_for (fun i Γ' => ∃ s, Less Γ' (env s) ∧ Inv i s) h ⟨s0, less_of h0, i0⟩ (fun i x Γ' hx ⟨s, l, hi⟩ => ?_) fun Γ' ⟨s, l, hi⟩ => ⟨_, l, done s hi⟩
  obtain ⟨bs, b, run⟩ := turn i x s hx hi
  refine ⟨bs, b, rp_less l.sets (run.mono fun o r => ?_)⟩
  cases o with
  | nx Γ2 => exact r.imp fun s' z => ⟨less_of z.2, z.1⟩
  | ct Γ2 => exact r.imp fun s' z => ⟨less_of z.2, z.1⟩
  | bk Γ2 => exact r
  | rt n e Γ2 => exact r
  | ex c => exact r
def resT : Out → Prop := fun _ => False
theorem run_puT {N : List Str} {vs : List V} {Q : VK} (k a : Nat) (h : PuT T pre1 post1 vs H Q E) (ha : ∀ g es, pre1 g es → es.length = a) (hN : N.length = a + k)
    (run : ∀ g es, pre1 g es → RunP T K E (es.map Sl.sh ++ List.replicate k .no) t resT (post1 g es)) : t { nx := fun _ H' => Q .non H', rt := Q } (L2.start N vs) H := by
  obtain ⟨g, F, es, s, tb, rv, hp, q⟩ := h
  refine run g es hp F H F H _ _ (ok_start k s tb rv (by rw [ha g es hp]; exact hN)) ⟨fun Γ σ F' H' z l o => z.elim, fun Γ σ F' H' z l o => z.elim, fun Γ σ F' H' z l o => z.elim, fun m e Γ σ F' H' v z l o r1 y => z.elim, fun c F' H' z _ _ => z.elim⟩ fun e Γ' σ' F' H' v z l o r dp => ?_
  exact q e z v F' H' o.st r dp
theorem len_puT {vs : List V} {Q : VK} {a : Nat} (h : PuT T pre1 post1 vs H Q E) (ha : ∀ g es, pre1 g es → es.length = a) : vs.length = a := by
  obtain ⟨g, F, es, s, tb, rv, hP, q⟩ := h
  rw [rv.length]
  exact ha g es hP
/-- te may give what pd says, a tuple of new lists -/
def EdT (T : List (Addr × Str)) (Δ : List Sl) (te : TE) (pd : PyData → Prop) : Prop := ∀ (σ : St) (F : Hp), Sh F σ Δ → ∀ H, Sub F H → LamX.Tabs T H → ∀ Q : VK, (∀ r, pd r → ∀ v F' H', Step T F F' H H' → Rv F' v r → Deep F' H v → Q v H') → te σ H Q
theorem ed_callT {X : XK} (g : γ) (ha : Ea T Δ tr es) (hp : pre1 g es) : EdT T Δ (tCall (PuT T pre1 post1) [] X tr) (post1 g es) := fun σ F s H su t Q q => ha σ F s H su t _ fun vs F1 H1 s1 rv => ⟨g, F1, es, s1.sub, s1.tab, by rw [List.append_nil]; exact rv, hp, fun r hr v F2 H2 s2 r2 z => q r hr v F2 H2 (s1.trans s2) r2 (by
  obtain ⟨t, us, a, b, c⟩ := z
  exact ⟨t, us, a, b, fun q y => s1.ext.live q (c q y)⟩)⟩
theorem EdT.ed (h : EdT T Δ te pd) : Ed T Δ te false pd := fun σ F s H su t Q q => h σ F s H su t Q fun r hr v F' H' st rv _ => q r hr v F' H' st rv fun z => nomatch z
theorem Ok.emptied {l : Addr} {us : List V} (o : Ok T F0 H0 F H σ Γ) (s : Step T F F H H2) (hl : H l = none) (h2 : H2 l = some (.lst us)) : Ok T F0 H0 F (upd H2 l (.lst [])) σ Γ := by
  have o' := o.step s
  have fl : F l = none := o.st.sub.free hl
  have nl : H0 l = none := o.st.ext.live l hl
  refine ⟨o'.st.mut fl nl h2 nt_lst fun φ z => (nomatch z), o.len, o.sh, fun j q e z => ?_, o.raw, o.sc, o.ne⟩
  obtain ⟨k1, k2, k3, k4⟩ := o'.ow j q e z
  have nq : q ≠ l := fun y => by
    have w := (o.ow j q e z).2.2.2.wr.some
    rw [y] at w
    exact w hl
  exact ⟨k1, k2, k3, k4.at_ fun y a _ => by rw [upd_ne nq]; exact a⟩
/-- a tuple of a new list is told, looked at, and its list emptied -/
theorem r_deep1 {x : TS} (h : EdT T (hid Γ) te pd) (ft : ∀ r, pd r → (∃ (a : Str) (ys : List PyData), r = .tuple [d a, .list ys]) ∧ Et T (see (Γ.set i (.sh r))) tt false) (hi : i < Γ.length) (k : Run T K E (Γ.set i .no) u R) : Run T K E Γ (tSeq (tAsg te (gName i)) (tSeq (tIfS tt x tNext) (tSeq (tDrop (tBM0 K "list" rClear (tIxU K (tVar i) (tC (.int 1))))) u))) R := fun F0 H0 F H σ D o f => h σ F o.toHid H o.st.sub o.st.tab _ fun r hr v F1 H1 s1 rv dp => by
  obtain ⟨⟨a, ys, rfl⟩, et⟩ := ft r hr
  obtain ⟨t, us, rfl, ht, hn⟩ := dp
  have rv' : Rv F1 (.ref t) (.tuple [d a, .list ys]) := rv
  cases rv' with
  | tup at_ all =>
    cases all with
    | cons ra more =>
      cases more with
      | cons rl more2 =>
        cases more2
        cases rl with
        | @lst l ws _ al rl =>
          rw [ht] at at_
          cases at_
          have hl : H l = none := hn l (by simp)
          have o1 := (o.step s1).set (i := i) (v := .ref t) rv
          refine o1.test et _ fun H2 s2 => ?_
          have ht2 : H2 t = some (.tup [_, .ref l]) := (s2.sub _ _ ht).1
          have hl2 : H2 l = some (.lst ws) := (s2.sub _ _ al).1
          refine Or.inl ⟨.ref t, (List.getElem?_set_self (by rw [o.len]; exact hi)), .inr (.inl ⟨t, _, 1, .ref l, rfl, rfl, SqT.of ht2, atI_nat (j := 1) rfl, Or.inl ⟨rfl, _, SqL.of hl2⟩, l, ws, rfl, rfl, hl2, ?_⟩)⟩
          have st : Step T F F H H2 := (s1.trans s2).narrow (Same.refl F)
          exact k F0 H0 F _ _ D ((o.emptied st hl hl2).forget) f
end
end Tf

/-! laid_or_short: its defs' specs; layings as they are told. -/
namespace Tf
open PySem PySem.Spec PyProof.Rows L2 Dt
/-- a floor as it is made -/
structure FlG (K : PySem.W.Frag) (f : Fl) : Prop where
  fl : isFl K f
  kn : ∀ p, inK f p = inCell f.cells p
  so : f.cells.Pairwise ltYX
  sm : f.cells.length ≤ 36
theorem FlG.nd {K : PySem.W.Frag} {f : Fl} (h : FlG K f) : f.cells.Nodup := nodup_lt h.so
theorem FlG.mem {K : PySem.W.Frag} {f : Fl} (h : FlG K f) {p : Pt} : inK f p = true ↔ p ∈ f.cells := by
  rw [h.kn]
  unfold inCell
  exact decide_eq_true_iff
instance : Inhabited Pt := ⟨(0, 0)⟩
/-- the other one of the piece -/
def oth (D : Dc Pt) (c : Pt) : Pt := (D.get c).getD default
theorem oth_of {D : Dc Pt} {a b : Pt} (h : D.get a = some b) : oth D a = b := by
  unfold oth
  rw [h]
  rfl
theorem get_oth {D : Dc Pt} {a : Pt} (h : (D.get a).isSome = true) : D.get a = some (oth D a) := by
  obtain ⟨x, hx⟩ := Option.isSome_iff_exists.mp h
  rw [oth_of hx, hx]
/-- each cell is in just one piece -/
structure Full (cells : List Pt) (D : Dc Pt) : Prop where
  half : Half cells D
  all : ∀ c ∈ cells, (D.get c).isSome = true
section
variable {cells : List Pt} {D : Dc Pt}
theorem Full.get (h : Full cells D) {c : Pt} (hc : c ∈ cells) : D.get c = some (oth D c) := get_oth (h.all c hc)
theorem Full.mem (h : Full cells D) {c : Pt} (hc : c ∈ cells) : oth D c ∈ cells := h.half.mem _ _ (h.half.sym _ _ (h.get hc))
theorem Full.back (h : Full cells D) {c : Pt} (hc : c ∈ cells) : oth D (oth D c) = c := oth_of (h.half.sym _ _ (h.get hc))
theorem Full.bes (h : Full cells D) {c : Pt} (hc : c ∈ cells) : oth D c ∈ beside4 c := h.half.bes _ _ (h.get hc)
end
def ltB (a b : Pt) : Bool := decide (a.2 < b.2 ∨ (a.2 = b.2 ∧ a.1 < b.1))
theorem ltB_iff {a b : Pt} : ltB a b = true ↔ ltYX a b := decide_eq_true_iff
theorem lt_or {a b : Pt} (h : a ≠ b) : ltYX a b ∨ ltYX b a := by
  obtain ⟨x, y⟩ := a
  obtain ⟨u, v⟩ := b
  unfold ltYX
  simp only [ne_eq, Prod.mk.injEq, not_and] at *
  omega
theorem lt_asym {a b : Pt} (h : ltYX a b) : ¬ ltYX b a := by
  obtain ⟨x, y⟩ := a
  obtain ⟨u, v⟩ := b
  unfold ltYX at *
  simp only at *
  omega
/-- the laying as it is told -/
def layF (cells : List Pt) (D : Dc Pt) : List (Pt × Pt) := (cells.filter fun c => ltB c (oth D c)).map fun c => (c, oth D c)
/-! ### the specs -/
def moreOf (cells : List Pt) : List Pt := if ((cells.filter isDark).length : Int) ≥ (cells.filter fun c => !isDark c).length then cells.filter isDark else cells.filter fun c => !isDark c
structure ShG where
  cells : List Pt
  D : Dc Pt
  start : Pt
  R : Dc Pt
  o : Pt
structure ShPre (g : ShG) : Prop where
  half : Half g.cells g.D
  st : g.D.get g.start = none
  n : g.D.get g.o = none
  chn : Chn g.cells g.D g.start g.R
  mem : g.o ∈ g.R.keys
  nk : g.D.keys.Nodup
  sub : ∀ q ∈ g.R.keys, q ∈ g.cells
  stc : g.start ∈ g.cells
  sm : g.cells.length ≤ 36
abbrev sp_shift_pieces (K : PySem.W.Frag) : Sp := PuMG (tabs K) 0 false (fun (g : ShG) es e => es = [d g.R, d g.o] ∧ e = d g.D ∧ ShPre g) fun g es e e' r => r = .none ∧ ∃ P : Dc Pt, e' = d P ∧ Shifted g.cells g.D g.start g.o P ∧ P.keys.Nodup
structure CoG where
  f : Fl
  D : Dc Pt
  start : Pt
structure CoPre (K : PySem.W.Frag) (g : CoG) : Prop where
  fl : FlG K g.f
  half : Half g.f.cells g.D
  st : g.D.get g.start = none
  nk : g.D.keys.Nodup
  mem : g.start ∈ g.f.cells
/-- one more is covered -/
structure Cov (cells : List Pt) (D P : Dc Pt) (start : Pt) : Prop where
  half : Half cells P
  nk : P.keys.Nodup
  dom : ∃ o, isDark o = !isDark start ∧ ∀ a, (P.get a).isSome = true ↔ ((D.get a).isSome = true ∨ a = o ∨ a = start)
abbrev sp_cover_or_short (K : PySem.W.Frag) : Sp := PuMG (tabs K) 1 true (fun (g : CoG) es e => es = [d g.f, d g.start] ∧ e = d g.D ∧ CoPre K g) fun g es e e' r => (r = d ([] : List Pt) ∧ ∃ P : Dc Pt, e' = d P ∧ Cov g.f.cells g.D P g.start) ∨ (∃ A : List Pt, r = d A ∧ e' = d g.D ∧ Short g.f.cells A)
abbrev sp_laying_by (K : PySem.W.Frag) : Sp := PuN (tabs K) (R2' (fun (f : Fl) (D : Dc Pt) => layF f.cells D) fun f D => FlG K f ∧ Full f.cells D)
abbrev sp_more_of_one_colour (K : PySem.W.Frag) : Sp := Pu (tabs K) (R1 (fun f : Fl => moreOf f.cells) (FlG K))
/-- what laid_or_short tells -/
inductive LoS (cells : List Pt) : PyData → Prop
  | laid (D : Dc Pt) (h : Full cells D) : LoS cells (.tuple [d ("laid" : Str), d (layF cells D)])
  | short (A : List Pt) (h : Short cells A) : LoS cells (.tuple [d ("short" : Str), d (inOrder A)])
abbrev sp_laid_or_short (K : PySem.W.Frag) : Sp := PuT (tabs K) (fun (f : Fl) es => es = [d f] ∧ FlG K f) fun f es r => LoS f.cells r
/-! ### keys -/
theorem put_nk {ν : Type} {D : Dc ν} (h : D.keys.Nodup) (k : Pt) (x : ν) : (D.put k x).keys.Nodup := by
  by_cases m : k ∈ D.keys
  · have e : (D.put k x).keys = D.keys := by
      have y : (D.l.any fun q => decide (q.1 = k)) = true := by
        obtain ⟨a, ha, he⟩ := List.mem_map.mp m
        exact List.any_eq_true.mpr ⟨a, ha, decide_eq_true he⟩
      unfold Dc.put Dc.keys
      simp only [y, if_true, List.map_map]
      refine List.map_congr_left fun q _ => ?_
      show (if q.1 = k then (q.1, x) else q).1 = q.1
      split <;> rfl
    rw [e]
    exact h
  · rw [keys_put_new m]
    exact List.nodup_append.mpr ⟨h, by simp, fun a ha b hb z => m (by rw [List.mem_singleton.mp hb] at z; rw [← z]; exact ha)⟩
theorem keys_len {ν : Type} {D : Dc ν} {cells : List Pt} (h : D.keys.Nodup) (s : ∀ q x, D.get q = some x → q ∈ cells) (l : cells.length ≤ 36) : D.l.length ≤ 36 := by
  have := sub_length h fun q hq => by
    obtain ⟨x, hx⟩ := Dc.mem_keys.mp hq
    exact s q x hx
  rw [← Dc.keys_length]
  omega
theorem lenSh {K : PySem.W.Frag} {vs : List V} {H : Hp} {Q : VK} {E : XK} (h : sp_shift_pieces K vs H Q E) : vs.length = 3 := len_puMG (a := 2) h fun g es e z => by rw [z.1]; rfl
theorem lenCo {K : PySem.W.Frag} {vs : List V} {H : Hp} {Q : VK} {E : XK} (h : sp_cover_or_short K vs H Q E) : vs.length = 3 := len_puMG (a := 2) h fun g es e z => by rw [z.1]; rfl
theorem lenLo {K : PySem.W.Frag} {vs : List V} {H : Hp} {Q : VK} {E : XK} (h : sp_laid_or_short K vs H Q E) : vs.length = 1 := len_puT (a := 1) h fun g es z => by rw [z.1]; rfl
theorem flat_dc (P : Dc Pt) : flat (d P) = true := by
  show ((P.l.map fun p => ((d p.1 : PyData), (d p.2 : PyData))).all fun x => imm x.2) = true
  rw [List.all_eq_true]
  intro x hx
  obtain ⟨q, _, rfl⟩ := List.mem_map.mp hx
  rfl
/-! ### a laying is told in order -/
theorem mem_take {l : List Pt} {i : Nat} {q : Pt} : q ∈ l.take i ↔ ∃ j, j < i ∧ l[j]? = some q := by
  constructor
  · intro h
    obtain ⟨j, hj⟩ := List.getElem?_of_mem h
    rw [List.getElem?_take] at hj
    split at hj
    · exact ⟨j, by assumption, hj⟩
    · cases hj
  · rintro ⟨j, hj, e⟩
    exact List.mem_of_getElem? (by rw [List.getElem?_take_of_lt hj]; exact e)
theorem so_lt {l : List Pt} (h : l.Pairwise ltYX) {i j : Nat} {a b : Pt} (hi : l[i]? = some a) (hj : l[j]? = some b) (k : i < j) : ltYX a b := by
  obtain ⟨x1, x2⟩ := List.getElem?_eq_some_iff.mp hi
  obtain ⟨y1, y2⟩ := List.getElem?_eq_some_iff.mp hj
  have := List.pairwise_iff_getElem.mp h i j x1 y1 k
  rw [x2, y2] at this
  exact this
theorem take_lt {l : List Pt} (h : l.Pairwise ltYX) {i : Nat} {a q : Pt} (hi : l[i]? = some a) (hq : q ∈ l) (k : ltYX q a) : q ∈ l.take i := by
  obtain ⟨j, hj⟩ := List.getElem?_of_mem hq
  refine mem_take.mpr ⟨j, ?_, hj⟩
  rcases Nat.lt_trichotomy j i with z | z | z
  · exact z
  · subst z
    rw [hi] at hj
    cases hj
    exact absurd k ltYX_irr
  · exact absurd k (lt_asym (so_lt h hi hj z))
theorem lay_turn {cells : List Pt} {D : Dc Pt} (F : Full cells D) (so : cells.Pairwise ltYX) {i : Nat} {cell : Pt} (h : cells[i]? = some cell) : (∃ c ∈ cells.take i, ltB c (oth D c) = true ∧ oth D c = cell) ↔ ltB cell (oth D cell) = false := by
  have hc := List.mem_of_getElem? h
  constructor
  · rintro ⟨c, h1, h2, h3⟩
    have cc := List.mem_of_mem_take h1
    have e : oth D cell = c := by rw [← h3]; exact F.back cc
    rw [e]
    rw [h3] at h2
    cases hb : ltB cell c with
    | false => rfl
    | true => exact absurd (ltB_iff.mp hb) (lt_asym (ltB_iff.mp h2))
  · intro hb
    have ne : oth D cell ≠ cell := beside_ne (F.bes hc)
    have lt : ltYX (oth D cell) cell := (lt_or ne).resolve_right fun z => by rw [ltB_iff.mpr z] at hb; cases hb
    exact ⟨oth D cell, take_lt so h (F.mem hc) lt, by rw [F.back hc]; exact ltB_iff.mpr lt, F.back hc⟩
theorem lay_next {cells : List Pt} {D : Dc Pt} {i : Nat} {cell : Pt} (h : cells[i]? = some cell) : layF (cells.take (i + 1)) D = layF (cells.take i) D ++ if ltB cell (oth D cell) = true then [(cell, oth D cell)] else [] := by
  unfold layF
  rw [take_snoc h, List.filter_append, List.map_append]
  congr 1
  by_cases e : ltB cell (oth D cell) = true
  · rw [if_pos e, List.filter_cons_of_pos (p := fun c => ltB c (oth D c)) e]
    rfl
  · rw [if_neg e, List.filter_cons_of_neg (p := fun c => ltB c (oth D c)) e]
    rfl
theorem lay_len (cells : List Pt) (D : Dc Pt) : (layF cells D).length ≤ cells.length := by
  unfold layF
  rw [List.length_map]
  exact List.length_filter_le _ _
/-! ### the larger colour -/
def lessOf (cells : List Pt) : List Pt := if ((cells.filter isDark).length : Int) ≥ (cells.filter fun c => !isDark c).length then cells.filter fun c => !isDark c else cells.filter isDark
theorem more_less (cells : List Pt) : ∃ b : Bool, moreOf cells = cells.filter (fun c => isDark c == b) ∧ lessOf cells = cells.filter (fun c => isDark c == !b) ∧ (lessOf cells).length ≤ (moreOf cells).length := by
  have e1 : (fun c => isDark c == true) = isDark := by funext c; cases isDark c <;> rfl
  have e2 : (fun c => isDark c == false) = fun c => !isDark c := by funext c; cases isDark c <;> rfl
  unfold moreOf lessOf
  by_cases h : ((cells.filter isDark).length : Int) ≥ (cells.filter fun c => !isDark c).length
  · rw [if_pos h, if_pos h]
    exact ⟨true, by rw [e1], by rw [show (!true) = false from rfl, e2], by omega⟩
  · rw [if_neg h, if_neg h]
    exact ⟨false, by rw [e2], by rw [show (!false) = true from rfl, e1], by omega⟩
theorem more_nd {cells : List Pt} (h : cells.Nodup) : (moreOf cells).Nodup := by
  obtain ⟨b, e, _, _⟩ := more_less cells
  rw [e]
  exact h.filter _
theorem more_mem {cells : List Pt} {a : Pt} (h : a ∈ moreOf cells) : a ∈ cells := by
  obtain ⟨b, e, _, _⟩ := more_less cells
  rw [e] at h
  exact (List.mem_filter.mp h).1
theorem more_col {cells : List Pt} {a c : Pt} (h : a ∈ moreOf cells) (k : c ∈ moreOf cells) : isDark a = isDark c := by
  obtain ⟨b, e, _, _⟩ := more_less cells
  rw [e] at h k
  rw [eq_of_beq (List.mem_filter.mp h).2, eq_of_beq (List.mem_filter.mp k).2]
theorem more_full {cells : List Pt} {D : Dc Pt} (nd : cells.Nodup) (h : Half cells D) (all : ∀ a ∈ moreOf cells, (D.get a).isSome = true) : Full cells D := by
  refine ⟨h, fun c hc => ?_⟩
  obtain ⟨b, e1, e2, l⟩ := more_less cells
  by_cases m : c ∈ moreOf cells
  · exact all c m
  · have cl : c ∈ lessOf cells := by
      rw [e2]
      refine List.mem_filter.mpr ⟨hc, ?_⟩
      rw [e1] at m
      have : ¬ isDark c = b := fun z => m (List.mem_filter.mpr ⟨hc, by rw [z]; exact beq_self_eq_true b⟩)
      revert this
      cases isDark c <;> cases b <;> simp
    have inj : ((moreOf cells).map (oth D)).Nodup := by
      refine List.pairwise_map.mpr (List.Pairwise.imp_of_mem (fun {x y} hx hy n z => n ?_) (more_nd nd))
      have h1 := h.sym _ _ (get_oth (all x hx))
      have h2 := h.sym _ _ (get_oth (all y hy))
      rw [z, h2] at h1
      exact (Option.some.inj h1).symm
    have z := sub_all (l := (moreOf cells).map (oth D)) (m := lessOf cells) inj (fun x hx => by
      obtain ⟨a, ha, rfl⟩ := List.mem_map.mp hx
      have g := get_oth (all a ha)
      rw [e2]
      refine List.mem_filter.mpr ⟨h.mem _ _ (h.sym _ _ g), ?_⟩
      rw [beside_dark (h.bes _ _ g)]
      rw [e1] at ha
      rw [eq_of_beq (List.mem_filter.mp ha).2]
      exact beq_self_eq_true _) (by rw [List.length_map]; exact l) c cl
    obtain ⟨a, ha, rfl⟩ := List.mem_map.mp z
    rw [h.sym _ _ (get_oth (all a ha))]
    rfl
theorem half_none (cells : List Pt) : Half cells ⟨[]⟩ := ⟨fun a b h => (nomatch h), fun a b h => (nomatch h), fun a b h => (nomatch h)⟩
theorem exN_call2 {T : List (Addr × Str)} {Δ : List Sl} {ta tb : TE} {X : XK} {α β γ : Type} {_ : Dt α} {_ : Dt β} {_ : Dt γ} {f : α → β → γ} {pre : α → β → Prop} {x : α} {y : β} (h1 : Ex T Δ ta (d x)) (h2 : Ex T Δ tb (d y)) (hp : pre x y) : ExN T Δ (tCall (PuN T (R2' f pre)) [] X (tCons ta (tCons tb tNil))) (d (f x y)) := fun σ F s H su t Q q =>
  h1 σ F s H su t _ fun v F1 H1 s1 r1 => h2 σ F1 (s.mono s1.ff) H1 s1.sub s1.tab _ fun w F2 H2 s2 r2 => ⟨F2, d (f x y), s2.sub, s2.tab, ⟨x, y, .cons (r1.mono s2.ff) (.cons r2 .nil), hp, rfl⟩, fun v F' H' s3 r3 n => q v F' H' ((s1.trans s2).trans s3) r3 fun p e => (s1.trans s2).ext.live p (n p e)⟩
end Tf

/-! Pieces along the stretches, as the laws lay them first. -/
namespace Tf
open PySem PySem.Spec PyProof.Rows L2 Dt
/-! ### range(0, n, 2) -/
def rng2 (m : Nat) : List Int := (List.range m).map fun (k : Nat) => 2 * (k : Int)
theorem rng2_get {m i : Nat} (h : i < m) : (rng2 m)[i]? = some (2 * (i : Int)) := by simp [rng2, h]
theorem rgc2 {n : Nat} (h : n ≤ 6) : RgC 0 n 2 ((n + 1) / 2) := by
  match n, h with
  | 0, _ => exact ⟨by decide, by decide, by decide +kernel, by decide +kernel⟩
  | 1, _ => exact ⟨by decide, by decide, by decide +kernel, by decide +kernel⟩
  | 2, _ => exact ⟨by decide, by decide, by decide +kernel, by decide +kernel⟩
  | 3, _ => exact ⟨by decide, by decide, by decide +kernel, by decide +kernel⟩
  | 4, _ => exact ⟨by decide, by decide, by decide +kernel, by decide +kernel⟩
  | 5, _ => exact ⟨by decide, by decide, by decide +kernel, by decide +kernel⟩
  | 6, _ => exact ⟨by decide, by decide, by decide +kernel, by decide +kernel⟩
  | n + 7, h => omega
theorem ei_range3 {T : List (Addr × Str)} {Δ : List Sl} {ta : TE} {n : Nat} (h : Ex T Δ ta (d (n : Int))) (hn : n ≤ 6) : Ei T Δ (iRng3 (tCons (tC (.int 0)) (tCons ta (tCons (tC (.int 2)) tNil)))) ((rng2 ((n + 1) / 2)).map d) := fun σ F s H su t R q =>
  (ea_cons' (ex_int (i := 0)) (ea_cons' h (ea_cons' (ex_int (i := 2)) ea_nil'))) σ F s H su t _ fun vs F1 H1 st r => by
    cases r with
    | cons r1 r =>
      cases r with
      | cons r2 r =>
        cases r with
        | cons r3 r =>
          cases r
          cases rv_int r1
          cases rv_int r2
          cases rv_int r3
          refine ⟨0, n, 2, (n + 1) / 2, rfl, rgc2 hn, q _ F1 H1 st ⟨fun H s => ?_, fun i H s hi => ?_, fun i H v H' s t hi y => ?_⟩⟩
          · show (n + 1) / 2 ≤ ((rng2 ((n + 1) / 2)).map d).length
            simp [rng2]
          · show i < (n + 1) / 2
            simpa [rng2] using hi
          · obtain ⟨rfl, rfl⟩ := y
            have hi' : i < (n + 1) / 2 := by simpa [rng2] using hi
            refine ⟨d (2 * (i : Int)), F1, by rw [List.getElem?_map, rng2_get hi']; rfl, .refl s t, ?_⟩
            have e : (0 : Int) + (i : Nat) * 2 = 2 * (i : Int) := by omega
            rw [e]
            exact .int _
/-! ### the pieces -/
def ones (r : Row) : List Int := (rangeI 0 r.bs.length).filter fun x => r.bs.getD x.toNat false
def pl (up : Bool) (x y : Int) : Pt := if up then (y, x) else (x, y)
def putPair (D : Dc Pt) (p q : Pt) : Dc Pt := (D.put p q).put q p
def flatStep (up : Bool) (y : Int) (xs : List Int) (D : Dc Pt) (k : Int) : Dc Pt := putPair D (pl up (xs.getD k.toNat default) y) (pl up (xs.getD (k + 1).toNat default) y)
def flatRow (up : Bool) (y : Int) (D : Dc Pt) (xs : List Int) : Dc Pt := (rng2 ((xs.length + 1) / 2)).foldl (flatStep up y xs) D
def flatPairs (rows : BR) (up : Bool) : Dc Pt := (rangeI 0 rows.length).foldl (fun D y => flatRow up y D (ones (rowAt rows y))) ⟨[]⟩
def pairUp : List Int → Bool
  | [] => true
  | [_] => false
  | a :: b :: r => decide (b = a + 1) && pairUp r
theorem pairUp_even : ∀ {xs : List Int}, pairUp xs = true → xs.length % 2 = 0
  | [], _ => rfl
  | [_], h => by cases h
  | a :: b :: r, h => by
    have h' : (decide (b = a + 1) && pairUp r) = true := h
    have := pairUp_even (xs := r) (Bool.and_eq_true _ _ ▸ h').2
    simp only [List.length_cons]
    omega
theorem rng2_succ (m : Nat) : rng2 (m + 1) = 0 :: (rng2 m).map (· + 2) := by
  unfold rng2
  rw [List.range_succ_eq_map, List.map_cons, List.map_map, List.map_map]
  congr 1
theorem flatRow_cons (up : Bool) (y a b : Int) (D : Dc Pt) (r : List Int) : flatRow up y D (a :: b :: r) = flatRow up y (putPair D (pl up a y) (pl up b y)) r := by
  unfold flatRow
  have e : ((a :: b :: r).length + 1) / 2 = (r.length + 1) / 2 + 1 := by simp only [List.length_cons]; omega
  rw [e, rng2_succ, List.foldl_cons, List.foldl_map]
  have s : flatStep up y (a :: b :: r) D 0 = putPair D (pl up a y) (pl up b y) := rfl
  rw [s]
  generalize putPair D (pl up a y) (pl up b y) = D'
  have g : ∀ (l : List Int) (D' : Dc Pt), (∀ k ∈ l, 0 ≤ k) → l.foldl (fun x y_1 => flatStep up y (a :: b :: r) x (y_1 + 2)) D' = l.foldl (flatStep up y r) D' := by
    intro l
    induction l with
    | nil => intro D' _; rfl
    | cons k l ih =>
      intro D' h
      rw [List.foldl_cons, List.foldl_cons, ih _ fun k' hk => h k' (List.mem_cons_of_mem _ hk)]
      have k0 := h k List.mem_cons_self
      have e1 : (k + 2).toNat = k.toNat + 2 := by omega
      have e2 : (k + 2 + 1).toNat = (k + 1).toNat + 2 := by omega
      unfold flatStep
      rw [e1, e2]
      rfl
  exact g _ _ fun k hk => by
    obtain ⟨j, _, rfl⟩ := List.mem_map.mp hk
    omega
theorem pl_inj {up : Bool} {x y x' y' : Int} (h : pl up x y = pl up x' y') : x = x' ∧ y = y' := by
  unfold pl at h
  cases up <;> simp at h <;> omega
theorem pl_beside (up : Bool) (x y : Int) : pl up (x + 1) y ∈ beside4 (pl up x y) := by
  unfold pl beside4
  cases up <;> simp
theorem putPair_half {cells : List Pt} {D : Dc Pt} {p q : Pt} (h : Half cells D) (hp : D.get p = none) (hq : D.get q = none) (b : q ∈ beside4 p) (pc : p ∈ cells) (qc : q ∈ cells) : Half cells (putPair D p q) ∧ ∀ a, ((putPair D p q).get a).isSome = true ↔ ((D.get a).isSome = true ∨ a = p ∨ a = q) := by
  have ne : q ≠ p := beside_ne b
  have key : ∀ a, (putPair D p q).get a = if a = q then some p else if a = p then some q else D.get a := fun a => put2
  have old : ∀ a c, a ≠ q → a ≠ p → D.get a = some c → c ≠ q ∧ c ≠ p := fun a c _ _ e => by
    have this := h.sym a c e
    constructor
    · intro z
      rw [z, hq] at this
      cases this
    · intro z
      rw [z, hp] at this
      cases this
  refine ⟨⟨fun a c e => ?_, fun a c e => ?_, fun a c e => ?_⟩, fun a => ?_⟩
  · rw [key] at e ⊢
    by_cases e1 : a = q
    · rw [if_pos e1] at e
      rw [← Option.some.inj e, if_neg ne.symm, if_pos rfl, e1]
    · rw [if_neg e1] at e
      by_cases e2 : a = p
      · rw [if_pos e2] at e
        rw [← Option.some.inj e, if_pos rfl, e2]
      · rw [if_neg e2] at e
        obtain ⟨z1, z2⟩ := old a c e1 e2 e
        rw [if_neg z1, if_neg z2]
        exact h.sym a c e
  · rw [key] at e
    by_cases e1 : a = q
    · rw [if_pos e1] at e
      rw [← Option.some.inj e, e1]
      exact beside_symm b
    · rw [if_neg e1] at e
      by_cases e2 : a = p
      · rw [if_pos e2] at e
        rw [← Option.some.inj e, e2]
        exact b
      · rw [if_neg e2] at e
        exact h.bes a c e
  · rw [key] at e
    by_cases e1 : a = q
    · rw [e1]; exact qc
    · rw [if_neg e1] at e
      by_cases e2 : a = p
      · rw [e2]; exact pc
      · rw [if_neg e2] at e
        exact h.mem a c e
  · rw [key]
    by_cases e1 : a = q
    · rw [if_pos e1]
      exact ⟨fun _ => .inr (.inr e1), fun _ => rfl⟩
    · rw [if_neg e1]
      by_cases e2 : a = p
      · rw [if_pos e2]
        exact ⟨fun _ => .inr (.inl e2), fun _ => rfl⟩
      · rw [if_neg e2]
        exact ⟨fun z => .inl z, fun z => z.resolve_right fun y => y.elim e2 e1⟩
theorem none_of {D : Dc Pt} {a : Pt} (h : ¬ (D.get a).isSome = true) : D.get a = none := by
  cases e : D.get a with
  | none => rfl
  | some x => rw [e] at h; exact absurd rfl h
theorem flatRow_ok {cells : List Pt} {up : Bool} {y : Int} : ∀ {xs : List Int} {D : Dc Pt}, pairUp xs = true → xs.Nodup → Half cells D → (∀ x ∈ xs, D.get (pl up x y) = none) → (∀ x ∈ xs, pl up x y ∈ cells) →
    Half cells (flatRow up y D xs) ∧ ∀ a, ((flatRow up y D xs).get a).isSome = true ↔ ((D.get a).isSome = true ∨ ∃ x ∈ xs, a = pl up x y)
  | [], D, _, _, h, _, _ => by
    have e : flatRow up y D [] = D := rfl
    rw [e]
    exact ⟨h, fun a => ⟨fun z => .inl z, fun z => z.resolve_right fun ⟨x, hx, _⟩ => by simp at hx⟩⟩
  | [_], D, e, _, _, _, _ => by cases e
  | a :: b :: r, D, e, nd, h, hn, hc => by
    have e' : (decide (b = a + 1) && pairUp r) = true := e
    obtain ⟨e1, e2⟩ := Bool.and_eq_true _ _ ▸ e'
    have e1 := of_decide_eq_true e1
    subst e1
    obtain ⟨h1, h2⟩ := putPair_half h (hn a (by simp)) (hn (a + 1) (by simp)) (pl_beside up a y) (hc a (by simp)) (hc (a + 1) (by simp))
    rw [List.nodup_cons, List.nodup_cons] at nd
    obtain ⟨n1, n2, n3⟩ := nd
    rw [flatRow_cons]
    obtain ⟨k1, k2⟩ := flatRow_ok (xs := r) (D := putPair D (pl up a y) (pl up (a + 1) y)) e2 n3 h1 (fun x hx => none_of fun z => by
      rcases (h2 _).mp z with w | w | w
      · rw [hn x (by simp [hx])] at w; cases w
      · exact n1 (by rw [← (pl_inj w).1]; exact List.mem_cons_of_mem _ hx)
      · exact n2 (by rw [← (pl_inj w).1]; exact hx)) fun x hx => hc x (by simp [hx])
    refine ⟨k1, fun q => ?_⟩
    rw [k2, h2]
    constructor
    · rintro ((z | z | z) | ⟨x, hx, z⟩)
      · exact .inl z
      · exact .inr ⟨a, by simp, z⟩
      · exact .inr ⟨a + 1, by simp, z⟩
      · exact .inr ⟨x, by simp [hx], z⟩
    · rintro (z | ⟨x, hx, z⟩)
      · exact .inl (.inl z)
      · rcases List.mem_cons.mp hx with w | w
        · exact .inl (.inr (.inl (by rw [z, w])))
        · rcases List.mem_cons.mp w with w | w
          · exact .inl (.inr (.inr (by rw [z, w])))
          · exact .inr ⟨x, w, z⟩
theorem rangeI_nodup (lo : Int) (n : Nat) : (rangeI lo n).Nodup := (rangeI_sorted lo n).imp fun {a b} h e => by omega
theorem ones_nodup (r : Row) : (ones r).Nodup := (rangeI_nodup _ _).filter _
theorem mem_ones {r : Row} {x : Int} : x ∈ ones r ↔ 0 ≤ x ∧ r.bs.getD x.toNat false = true := by
  unfold ones
  rw [List.mem_filter, mem_rangeI]
  constructor
  · rintro ⟨⟨a, b⟩, c⟩
    exact ⟨a, c⟩
  · rintro ⟨a, c⟩
    refine ⟨⟨a, ?_⟩, c⟩
    by_cases z : x.toNat < r.bs.length
    · omega
    · rw [List.getD_eq_getElem?_getD, List.getElem?_eq_none (by omega)] at c
      cases c
/-- each row falls into pairs of signs -/
def EvenRows (rows : BR) : Prop := ∀ r ∈ rows, pairUp (ones r) = true
theorem flat_rows {cells : List Pt} {rows : BR} {up : Bool} (ev : EvenRows rows) : ∀ (ys : List Int) (D : Dc Pt), ys.Nodup → (∀ y ∈ ys, 0 ≤ y ∧ y < rows.length) → Half cells D → (∀ y ∈ ys, ∀ x, D.get (pl up x y) = none) → (∀ y ∈ ys, ∀ x ∈ ones (rowAt rows y), pl up x y ∈ cells) →
    Half cells (ys.foldl (fun D y => flatRow up y D (ones (rowAt rows y))) D) ∧ ∀ a, ((ys.foldl (fun D y => flatRow up y D (ones (rowAt rows y))) D).get a).isSome = true ↔ ((D.get a).isSome = true ∨ ∃ y ∈ ys, ∃ x ∈ ones (rowAt rows y), a = pl up x y)
  | [], D, _, _, h, _, _ => ⟨h, fun a => ⟨fun z => .inl z, fun z => z.resolve_right fun ⟨x, hx, _⟩ => by simp at hx⟩⟩
  | y :: ys, D, nd, hy, h, hn, hc => by
    rw [List.nodup_cons] at nd
    have yr := hy y List.mem_cons_self
    have er : pairUp (ones (rowAt rows y)) = true := ev _ (by
      unfold rowAt
      rw [List.getD_eq_getElem?_getD, List.getElem?_eq_getElem (by omega)]
      exact List.getElem_mem _)
    obtain ⟨h1, h2⟩ := flatRow_ok (up := up) (y := y) er (ones_nodup _) h (fun x _ => hn y List.mem_cons_self x) (hc y List.mem_cons_self)
    obtain ⟨k1, k2⟩ := flat_rows ev ys _ nd.2 (fun z hz => hy z (List.mem_cons_of_mem _ hz)) h1 (fun z hz x => none_of fun w => by
      rcases (h2 _).mp w with v | ⟨x', _, v⟩
      · rw [hn z (List.mem_cons_of_mem _ hz) x] at v; cases v
      · exact nd.1 (by rw [← (pl_inj v).2]; exact hz)) fun z hz => hc z (List.mem_cons_of_mem _ hz)
    rw [List.foldl_cons]
    refine ⟨k1, fun a => ?_⟩
    rw [k2, h2]
    constructor
    · rintro ((z | ⟨x, hx, z⟩) | ⟨y', hy', z⟩)
      · exact .inl z
      · exact .inr ⟨y, List.mem_cons_self, x, hx, z⟩
      · exact .inr ⟨y', List.mem_cons_of_mem _ hy', z⟩
    · rintro (z | ⟨y', hy', x, hx, z⟩)
      · exact .inl (.inl z)
      · rcases List.mem_cons.mp hy' with w | w
        · subst w
          exact .inl (.inr ⟨x, hx, z⟩)
        · exact .inr ⟨y', w, x, hx, z⟩
theorem flat_full {cells : List Pt} {rows : BR} {up : Bool} (ev : EvenRows rows) (hc : ∀ p, p ∈ cells ↔ ∃ y : Int, (0 ≤ y ∧ y < rows.length) ∧ ∃ x ∈ ones (rowAt rows y), p = pl up x y) : Full cells (flatPairs rows up) := by
  obtain ⟨h1, h2⟩ := flat_rows (cells := cells) (up := up) ev (rangeI 0 rows.length) ⟨[]⟩ (rangeI_nodup _ _) (fun y hy => by have := mem_rangeI.mp hy; omega) (half_none _) (fun _ _ _ => rfl) fun y hy x hx => (hc _).mpr ⟨y, by have := mem_rangeI.mp hy; omega, x, hx, rfl⟩
  refine ⟨h1, fun c h => (h2 c).mpr (.inr ?_)⟩
  obtain ⟨y, hy, x, hx, e⟩ := (hc c).mp h
  exact ⟨y, mem_rangeI.mpr (by omega), x, hx, e⟩
theorem flat_law {rows : BR} : ∀ p, p ∈ lawCells rows ↔ ∃ y : Int, (0 ≤ y ∧ y < rows.length) ∧ ∃ x ∈ ones (rowAt rows y), p = pl false x y := fun p => by
  rw [mem_lawCells]
  constructor
  · rintro ⟨a, b, c⟩
    have l := bit_len c
    exact ⟨p.2, ⟨b, by omega⟩, p.1, mem_ones.mpr ⟨a, c⟩, rfl⟩
  · rintro ⟨y, ⟨y0, y1⟩, x, hx, rfl⟩
    exact ⟨(mem_ones.mp hx).1, y0, (mem_ones.mp hx).2⟩
theorem flat_turned {rows : BR} (same : ∀ r ∈ rows, r.bs.length = wd rows) : ∀ p, p ∈ lawCells (turned rows) ↔ ∃ y : Int, (0 ≤ y ∧ y < rows.length) ∧ ∃ x ∈ ones (rowAt rows y), p = pl true x y := fun p => by
  rw [turned_cells same, flat_law]
  constructor
  · rintro ⟨y, hy, x, hx, e⟩
    refine ⟨y, hy, x, hx, ?_⟩
    obtain ⟨u, v⟩ := p
    have e' : (v, u) = (x, y) := e
    cases e'
    rfl
  · rintro ⟨y, hy, x, hx, rfl⟩
    exact ⟨y, hy, x, hx, rfl⟩
/-! ### the floors that can be laid -/
theorem stretch_even : ∀ w b z : _root_.Fin 7, b.val + z.val ≤ w.val → z.val % 2 = 0 → pairUp (ones (stretch (w.val : Int) (b.val : Int) (z.val : Int))) = true := by decide +kernel
theorem even_stretch {w b z : Int} (w6 : w ≤ 6) (b0 : 0 ≤ b) (z0 : 0 ≤ z) (h : b + z ≤ w) (e : z % 2 = 0) : pairUp (ones (stretch w b z)) = true := by
  have := stretch_even ⟨w.toNat, by omega⟩ ⟨b.toNat, by omega⟩ ⟨z.toNat, by omega⟩ (by show b.toNat + z.toNat ≤ w.toNat; omega) (by show z.toNat % 2 = 0; omega)
  have e1 : ((w.toNat : Nat) : Int) = w := by omega
  have e2 : ((b.toNat : Nat) : Int) = b := by omega
  have e3 : ((z.toNat : Nat) : Int) = z := by omega
  simp only [e1, e2, e3] at this
  exact this
theorem fold_even {w more : Int} : ∀ (ys : List Int) (g : Dr), DrOk w g → EvenRows g.rows → EvenRows (ys.foldl (drStep w more true) g).rows
  | [], g, _, h => h
  | y :: ys, g, k, h => by
    rw [List.foldl_cons]
    have sz := drSize_ok (more := more) (even := true) (y := y) k.w2 k.w6
    have bg := drBegin_ok (more := more) (y := y) k sz.1 sz.2
    refine fold_even ys _ (drStep_ok k) fun r hr => ?_
    rcases List.mem_append.mp hr with z | z
    · exact h r z
    · rw [List.mem_singleton.mp z]
      refine even_stretch k.w6 bg.1 (by omega) bg.2.1 ?_
      show (2 * (1 + mixed more y % (w / 2))) % 2 = 0
      omega
theorem even_rowsBy (cell more : Int) : EvenRows (rowsBy cell more true) :=
  fold_even _ _ ⟨by omega, by omega, by show (0 : Int) ≤ 0; omega, by show (0 : Int) ≤ 2 + cell % 5 - 1; omega, by show 2 + cell % 5 - 1 ≤ 2 + cell % 5 - 1; omega⟩ fun r hr => by cases hr
def fixedE : List BR := [[pr "##..##", pr "##..##", pr "######"], [pr "######", pr "....##", pr "##..##", pr "##..##", pr "######"], [pr "##..##", pr "######", pr "##..##", pr "##..##"], [pr "##..##", pr "##..##", pr "######", pr "##..##", pr "##..##"]]
theorem fixedE_fine : ∀ rows ∈ fixedE, fineB rows = true := by decide +kernel
theorem fixedE_even : ∀ rows ∈ fixedE, (rows.all fun r => pairUp (ones r)) = true := by decide +kernel
def baseRows (ns : List Int) : BR := if cellAt ns 0 % 7 = 6 then fixedE.getD (cellAt ns 0 / 7 % 4).toNat default else rowsBy (cellAt ns 0) (cellAt ns 1) true
def upOf (ns : List Int) : Bool := decide (cellAt ns 0 / 30 % 2 = 1)
def canRows (ns : List Int) : BR := if upOf ns = true then turned (baseRows ns) else baseRows ns
theorem base_ok (ns : List Int) : Fine (baseRows ns) ∧ EvenRows (baseRows ns) := by
  unfold baseRows
  by_cases h : cellAt ns 0 % 7 = 6
  · rw [if_pos h]
    have m : fixedE.getD (cellAt ns 0 / 7 % 4).toNat default ∈ fixedE := by
      have hl : (cellAt ns 0 / 7 % 4).toNat < fixedE.length := by show _ < 4; omega
      rw [List.getD_eq_getElem?_getD, List.getElem?_eq_getElem hl]
      exact List.getElem_mem hl
    exact ⟨fine_check (fixedE_fine _ m), fun r hr => List.all_eq_true.mp (fixedE_even _ m) r hr⟩
  · rw [if_neg h]
    exact ⟨fine_rowsBy _ _ _, even_rowsBy _ _⟩
theorem can_fine (ns : List Int) : Fine (canRows ns) := by
  unfold canRows
  split
  · exact fine_turned (base_ok ns).1
  · exact (base_ok ns).1
theorem can_full (ns : List Int) : Full (lawCells (canRows ns)) (flatPairs (baseRows ns) (upOf ns)) := by
  unfold canRows
  cases upOf ns with
  | true =>
    rw [if_pos rfl]
    exact flat_full (base_ok ns).2 (flat_turned (base_ok ns).1.br.2.2.2)
  | false =>
    rw [if_neg (by decide)]
    exact flat_full (base_ok ns).2 flat_law
abbrev sp__law_pairs_flat (K : PySem.W.Frag) : Sp := Pu (tabs K) (R2' flatPairs fun rows _ => Fine rows ∧ EvenRows rows)
abbrev sp__law_floor_by (K : PySem.W.Frag) : Sp := PuC1 (tabs K) K fun ns => (canRows ns, flatPairs (baseRows ns) (upOf ns))
/-- cells that fall short: then no laying is -/
theorem no_short {cells A : List Pt} {D : Dc Pt} (F : Full cells D) (h : Short cells A) : False := by
  have := h.few (A.map (oth D)) (List.pairwise_map.mpr (List.Pairwise.imp_of_mem (fun {x y} hx hy n z => n (by rw [← F.back (h.sub x hx), ← F.back (h.sub y hy), z])) h.nd)) fun o ho => by
    obtain ⟨a, ha, rfl⟩ := List.mem_map.mp ho
    exact ⟨F.mem (h.sub a ha), a, ha, F.bes (h.sub a ha)⟩
  rw [List.length_map] at this
  exact Nat.lt_irrefl _ this
theorem run_puC1 {β : Type} [Dt β] {f : List Int → β} {T : List (Addr × Str)} {K : PySem.W.Frag} {E : XK} {H : Hp} {t : TS} {N : List Str} {vs : List V} {Q : VK} (k : Nat) (h : PuC1 T K f vs H Q E) (hN : N.length = 1 + k) (run : ∀ ns, Run T K E (.sc K ns :: List.replicate k .no) t (resR false (.ok (d (f ns))))) : t { nx := fun _ H' => Q .non H', rt := Q } (L2.start N vs) H := by
  obtain ⟨F, v, ns, rfl, s, tb, sc, q⟩ := h
  have get : ∀ (i : Nat) (x : Sl), ((Sl.sc K ns :: List.replicate k Sl.no) : List Sl)[i]? = some x → x = .no ∨ (i = 0 ∧ x = .sc K ns) := fun i x h => by
    cases i with
    | zero => exact .inr ⟨rfl, (Option.some.inj h).symm⟩
    | succ i =>
      rw [List.getElem?_cons_succ, List.getElem?_replicate] at h
      split at h
      · exact .inl (Option.some.inj h).symm
      · cases h
  refine run ns F H F H _ _ ⟨.refl s tb, ?_, fun i e h => ?_, fun i p e h => ?_, fun i w h => ?_, fun i K' ns' h => ?_, fun i j p e e' h _ => ?_⟩ ⟨fun Γ σ F' H' z l o => ?_, fun Γ σ F' H' z l o => z.elim, fun Γ σ F' H' z l o => z.elim, fun m e Γ σ F' H' v z l o r1 y => ?_, fun c F' H' z _ st => ?_⟩
  · unfold L2.start
    simp only [List.length_append, List.length_map, List.length_replicate, List.length_cons, List.length_nil]
    omega
  · rcases get i _ h with z | ⟨_, z⟩ <;> cases z
  · rcases get i _ h with z | ⟨_, z⟩ <;> cases z
  · rcases get i _ h with z | ⟨_, z⟩ <;> cases z
  · rcases get i _ h with z | ⟨rfl, z⟩
    · cases z
    · cases z
      exact ⟨v, rfl, sc⟩
  · rcases get i _ h with z | ⟨_, z⟩ <;> cases z
  · have z' : (Except.ok (d (f ns)) : Except Str PyData) = .ok .none := z
    injection z' with z2
    exact q .non F' H' o.st (by rw [z2]; exact .non)
  · obtain ⟨z1, z2⟩ := (show (Except.ok (d (f ns)) : Except Str PyData) = .ok e ∧ (false = true → m = true) from z)
    injection z1 with z3
    exact q v F' H' o.st (by rw [z3]; exact r1)
  · have z' : (Except.ok (d (f ns)) : Except Str PyData) = .error c := z
    cases z'
theorem putPair_len (D : Dc Pt) (p q : Pt) : (putPair D p q).l.length ≤ D.l.length + 2 := by
  have h1 := Dc.put_len D p q
  have h2 := Dc.put_len (D.put p q) q p
  unfold putPair
  omega
theorem flatRow_len (up : Bool) (y : Int) (xs : List Int) (D : Dc Pt) : (flatRow up y D xs).l.length ≤ D.l.length + 2 * ((xs.length + 1) / 2) := by
  unfold flatRow
  have g : ∀ (l : List Int) (D : Dc Pt), (l.foldl (flatStep up y xs) D).l.length ≤ D.l.length + 2 * l.length := by
    intro l
    induction l with
    | nil => intro D; exact Nat.le_refl _
    | cons k l ih =>
      intro D
      rw [List.foldl_cons]
      have h1 := ih (flatStep up y xs D k)
      have h2 := putPair_len D (pl up (xs.getD k.toNat default) y) (pl up (xs.getD (k + 1).toNat default) y)
      have h3 : (flatStep up y xs D k).l.length ≤ D.l.length + 2 := h2
      simp only [List.length_cons]
      omega
  have := g (rng2 ((xs.length + 1) / 2)) D
  simp only [rng2, List.length_map, List.length_range] at this ⊢
  exact this
end Tf

/-! dict(d) of a dict whose keys are pairs of small numbers: a copy. -/
namespace Tf
open PySem PySem.Spec PyProof.Rows L2 Dt
section
variable {prog : Program} {w : World} {κ : Type} [DecidableEq κ] {knd : HeapKind prog w κ} {A : Around} {E : Value → Shared → Prop} {s : Shared}
theorem call_dictHeap {o : Addr} {more : List (κ × Addr × Value)} {Q : Value → Shared → Prop} (hu : knd.room A.in1.in1) (hoS : (o == sysModules) = false) (ho : s.heap.DictOfH knd o more) (hsz : more.length ≤ sizeLine)
    (hap : (∀ x ∈ more, Shared.TypeIs { s with heap := s.heap.push { cls := .type "dict", data := .dict #[] } } (.ref x.2.1) "tuple") ∧ (more.map fun x => knd.hash x.1).Nodup)
    (ho' : (s.heap.push { cls := .type "dict", data := .dict #[] }).DictOfH knd o more)
    (h : ∀ h', h'.DictOfH knd s.heap.objs.size more → Heap.SameBut s.heap.objs.size (s.heap.push { cls := .type "dict", data := .dict #[] }) h' → Q (.ref s.heap.objs.size) { s with heap := h' }) :
    wpAny (model prog w) A (call (.type "dict") [.ref o]) Q E s := by
  refine callType_codes (Q₁ := fun obj s₁ => obj = .ref s.heap.objs.size ∧ s₁ = { s with heap := s.heap.push { cls := .type "dict", data := .dict #[] } }) F.kt_called_dict (F.kt_typeCall_dict_1 _) F.entry_dict_init (kt_code_dict_new _ ⟨rfl, rfl⟩) ?_
  rintro obj s₁ ⟨rfl, rfl⟩
  have hnew : (s.heap.push { cls := .type "dict", data := .dict #[] }).DictOfH knd s.heap.objs.size [] := Heap.DictOfH.new s.heap
  have hdo : s.heap.objs.size ≠ o := by
    obtain ⟨_, _, _, hg, _⟩ := ho
    exact fun e => absurd (Heap.lt_size hg) (by rw [e]; exact Nat.lt_irrefl _)
  refine ⟨hnew.typeIs, F.args_dict_init_2 _ _, ?_⟩
  unfold Builtin.«dict.__init__»
  refine wpAny_bind ?_
  unfold Builtin.Dict.selfAndRest
  refine wpAny_bind (wpAny_notOrdered_dict hnew.typeIs ?_)
  show wpAny _ _ (pure (s.heap.objs.size, [Value.ref o])) _ _ _
  refine wpAny_pure ?_
  show wpAny _ _ (Builtin.Dict.updateFrom "dict.__init__" s.heap.objs.size (.ref o) [] .none) _ _ _
  unfold Builtin.Dict.updateFrom
  refine wpAny_bind (wpAny_typeOf ho'.typeIs ?_)
  rw [if_neg (by decide)]
  refine wpAny_bind ?_
  unfold Builtin.Dict.merge
  refine wpAny_bind ?_
  unfold Builtin.Dict.readDirectly
  refine wpAny_bind (wpAny_isInstance ho'.typeIs isSubtype_dict_dict ?_)
  simp only [Bool.not_true, Bool.false_eq_true, if_false]
  refine wpAny_bind (wpAny_specialOf ho'.typeIs F.slot_dict_iter.lookup (wpAny_pure ?_))
  simp only [beq_self_eq_true, if_true]
  refine wpAny_bind (wpAny_pure ?_)
  refine wpAny_mergeDict_heap (hsz := by simpa using hsz) hu hdo hoS hnew ho' (.inr hap) fun h' hd' _ hs' => ?_
  show wpAny _ _ (Builtin.Dict.addKeywords s.heap.objs.size [] >>= _) _ _ _
  rw [storedAllH_nil_of_nodup more ho.nodup] at hd'
  exact wpAny_bind (wpAny_pure (wpAny_pure ⟨rfl, h h' hd' hs'⟩))
end
/-- the places whose hashes are told apart -/
def grid : List (List Key) := (List.range 9).flatMap fun (i : Nat) => (List.range 9).map fun (j : Nat) => [.inl ((i : Int) - 1), .inl ((j : Int) - 1)]
def hashP (k : List Key) : Int := reduceHash (Builtin.Tuple.tupleHashOf (k.map fun
  | .inl i => hashInt i
  | .inr _ => 0))
theorem grid_hash : (grid.map hashP).Nodup := by decide +kernel
theorem hash_is {P : Program} {w : World} {k : List Key} (h : k ∈ grid) : tupleKeyHash (mixKind P w) k = hashP k := by
  obtain ⟨i, _, hj⟩ := List.mem_flatMap.mp h
  obtain ⟨j, _, rfl⟩ := List.mem_map.mp hj
  rfl
theorem grid_nodup {l : List (List Key)} (h : l.Nodup) (s : ∀ k ∈ l, k ∈ grid) : (l.map hashP).Nodup := by
  have inj : ∀ a ∈ grid, ∀ b ∈ grid, hashP a = hashP b → a = b := fun a ha b hb e => by
    obtain ⟨i, hi, ei⟩ := List.getElem_of_mem ha
    obtain ⟨j, hj, ej⟩ := List.getElem_of_mem hb
    have hi' : i < (grid.map hashP).length := by rw [List.length_map]; exact hi
    have hj' : j < (grid.map hashP).length := by rw [List.length_map]; exact hj
    have : i = j := (List.getElem?_inj hi' grid_hash).mp (by
      rw [List.getElem?_map, List.getElem?_map, List.getElem?_eq_getElem hi, List.getElem?_eq_getElem hj, ei, ej]
      exact congrArg some e)
    subst this
    rw [← ei, ← ej]
  exact List.pairwise_map.mpr (List.Pairwise.imp_of_mem (fun {a b} ha hb n e => n (inj a (s a ha) b (s b hb) e)) h)
/-- dict(d), d's keys small -/
def rDictT : List V → Hp → VK → Prop := fun xs H Q => ∃ (a : Addr) (kvs : List (List Key × V)), xs = [.ref a] ∧ H a = some (.dT kvs) ∧ (∀ kv ∈ kvs, kv.1 ∈ grid) ∧ ∀ p, H p = none → Q (.ref p) (upd H p (.dT kvs))
theorem call_dictT {X : Cx} (hu : X.A.units + 2 < cLine) : CallR X (.type "dict") rDictT := by
  intro pins s σ H xs us Q I r q
  obtain ⟨a, kvs, ex, hd, hg, q⟩ := q
  subst ex
  obtain ⟨u, eu, rx⟩ := vals1 r
  subst eu
  cases rx
  obtain ⟨z, lo, vs, rel, dd⟩ := dt_of I.hok hd
  have dd2 := id dd
  obtain ⟨o, es, ep, h1, h2, h3, h4, h5, h6⟩ := dd
  have ek : vs.map (·.1) = kvs.map (·.1) := by
    clear dd2 h4 h5 h6 q hg z hd
    induction rel with
    | nil => rfl
    | cons hq t ih => rw [List.map_cons, List.map_cons, ih, hq.1]
  have gx : ∀ x ∈ vs.map (·.1), x ∈ grid := fun x hx => by
    rw [ek] at hx
    obtain ⟨kv, hk, rfl⟩ := List.mem_map.mp hx
    exact hg kv hk
  have hp : ∀ b o', s.heap.get? b = some o' → (s.heap.push { cls := .type "dict", data := .dict #[] }).get? b = some o' := fun b o' e => Heap.get?_push_of_some _ e
  have isk : ∀ x ∈ vs, (tupleKind (mixKind X.prog X.w)).is (s.heap.push { cls := .type "dict", data := .dict #[] }) x.1 x.2.1 := fun x hx => by
    obtain ⟨o', its, n, k1, k2, k3, k4⟩ := h5 x hx
    exact ⟨o', its, n, hp _ _ k1, k2, k3, k4⟩
  have lv : vs.length = kvs.length := rel.length.symm
  refine call_dictHeap (knd := tupleKind (mixKind X.prog X.w)) (show X.A.units + 2 < cLine from hu) lo dd2 (by rw [lv]; exact z) ⟨fun x hx => (let ⟨o', _, _, k1, k2, _⟩ := isk x hx; ⟨o', k1, k2⟩), ?_⟩ ⟨o, es, ep, hp _ _ h1, h2, h3, h4, isk, h6⟩ fun h' hd' hs => ?_
  · have e : (vs.map fun x => (tupleKind (mixKind X.prog X.w)).hash x.1) = (vs.map (·.1)).map hashP := by
      rw [List.map_map]
      refine List.map_congr_left fun x hx => hash_is (gx _ (List.mem_map.mpr ⟨x, hx, rfl⟩))
    rw [e]
    exact grid_nodup h6 gx
  · have hm : (s.heap.objs.size == sysModules) = false := beq_eq_false_iff_ne.mpr (Nat.ne_of_gt I.big)
    obtain ⟨o2, es2, ep2, g1, g2, g3, g4, g5, g6⟩ := hd'
    have fresh := I.hok.fresh (Nat.le_refl s.heap.objs.size)
    exact ⟨.ref s.heap.objs.size, upd H s.heap.objs.size (.dT kvs), I.laid (t' := s.toks) (fun b u e => (hs.2 b (Nat.ne_of_lt (Heap.lt_size e))).trans (Heap.get?_push_of_some _ e)) (Nat.le_refl _)
      (show ObjOk X.prog X.w _ _ _ (.dT kvs) from ⟨z, hm, vs, KT.keeps rel fun b ys e => by
        rw [upd_ne (fun y => by rw [y, fresh] at e; cases e)]
        exact e, o2, es2, ep2, g1, g2, g3, g4, g6⟩), rfl, q _ fresh⟩
/-- a place of the grid: of a floor, or about it -/
def small (p : Pt) : Prop := (-1 ≤ p.1 ∧ p.1 ≤ 7) ∧ (-1 ≤ p.2 ∧ p.2 ≤ 7)
theorem grid_kk {p : Pt} (h : small p) : kk p ∈ grid := by
  obtain ⟨x, y⟩ := p
  obtain ⟨⟨a, b⟩, ⟨c, e⟩⟩ := h
  simp only at a b c e
  refine List.mem_flatMap.mpr ⟨(x + 1).toNat, List.mem_range.mpr (by omega), List.mem_map.mpr ⟨(y + 1).toNat, List.mem_range.mpr (by omega), ?_⟩⟩
  have e1 : (((x + 1).toNat : Nat) : Int) - 1 = x := by omega
  have e2 : (((y + 1).toNat : Nat) : Int) - 1 = y := by omega
  rw [e1, e2]
  rfl
theorem exN_dictC {T : List (Addr × Str)} {Δ : List Sl} {te : TE} {ν : Type} {_ : Dt ν} {D : Dc ν} (h : Ex T Δ te (d D)) (hs : ∀ k ∈ D.keys, small k) : ExN T Δ (tCB rDictT (tCons te tNil)) (d D) := fun σ F s H su t Q q => h σ F s H su t _ fun v F1 H1 s1 r => by
  obtain ⟨p, kvs, rfl, a, b⟩ := rv_dc r
  refine ⟨p, kvs, rfl, (s1.sub _ _ a).1, fun kv hk => ?_, fun l hl => ?_⟩
  · have : ∀ {kvs : List (List Key × V)} {l : List (Pt × ν)}, RvK F1 kvs l → ∀ kv ∈ kvs, ∃ k ∈ l.map (·.1), kv.1 = kk k := by
      intro kvs l b
      induction b with
      | nil => intro kv hk; cases hk
      | cons one more ih =>
        intro kv hk
        rcases List.mem_cons.mp hk with z | z
        · exact ⟨_, List.mem_cons_self, by rw [z]⟩
        · obtain ⟨k, h1, h2⟩ := ih kv z
          exact ⟨k, List.mem_cons_of_mem _ h1, h2⟩
    obtain ⟨k, h1, h2⟩ := this b kv hk
    rw [h2]
    exact grid_kk (hs k h1)
  · have st := Step.made (o := .dT kvs) s1.sub s1.tab hl nt_dT
    exact q _ _ _ (s1.trans st) ((b.mono st.ff).rv upd_same) fun p e => by
      cases e
      exact s1.ext.live _ hl
def rInsert : V → List V → Hp → VK → Prop := fun x vs H Q => ∃ (l : Addr) (xs : List V) (i : Int) (y : V), x = .ref l ∧ vs = [.int i, y] ∧ H l = some (.lst xs) ∧ xs.length < sizeLine ∧ 0 ≤ i ∧ i < 2 ^ 63 ∧ Q .non (upd H l (.lst (xs.take i.toNat ++ [y] ++ xs.drop i.toNat)))
theorem rvl_app {F : Hp} : ∀ {us ws : List V} {es fs : List PyData}, RvL F us es → RvL F ws fs → RvL F (us ++ ws) (es ++ fs)
  | _, _, _, _, .nil, r => r
  | _, _, _, _, .cons a r1, r => .cons a (rvl_app r1 r)
theorem r_ins {T : List (Addr × Str)} {Γ : List Sl} {ta tb : TE} {K : PySem.W.Frag} {E : XK} {R : Out → Prop} {j : Nat} {p : Addr} {n m : Bool} {α : Type} {_ : Dt α} {xs : List α} {x : α} {i : Int} (h : Γ[j]? = some (Sl.ow p (d xs))) (hi : Es T Γ ta n (d i)) (he : Es T Γ tb m (d x)) (hz : xs.length < 100000) (i0 : 0 ≤ i ∧ i ≤ 1000000)
    (k : R (.nx (Γ.set j (.ow p (d (xs.take i.toNat ++ [x] ++ xs.drop i.toNat)))))) : Run T K E Γ (tDrop (tBM K "list" rInsert (tVar j) (tCons ta (tCons tb tNil)))) R := fun F0 H0 F H σ D o f => by
  obtain ⟨h1, h2, h3, h4⟩ := o.ow j p _ h
  obtain ⟨_, us, a, r⟩ := h4.own h2
  refine ⟨_, h1, Or.inl ⟨rfl, us, SqL.of a⟩, hi F0 H0 F H σ o _ fun u F1 H1 l1 o1 ru _ => he F0 H0 F1 H1 σ o1 _ fun v F' H' l2 o' rv _ => ?_⟩
  obtain ⟨g1, g2, g3, g4⟩ := o'.ow j p _ h
  obtain ⟨_, us', a', r'⟩ := g4.own g2
  have hl := r'.length
  rw [List.length_map] at hl
  cases rv_int ru
  refine ⟨p, us', i, v, rfl, rfl, a', Nat.lt_of_lt_of_le (by omega : us'.length < 100000) (by decide), i0.1, by omega, f.nx _ _ F' _ k (l1.trans l2) (o'.mut h ?_)⟩
  have z : OwnX F' (upd H' p (.lst (us'.take i.toNat ++ [v] ++ us'.drop i.toNat))) p (.list ((xs.map d).take i.toNat ++ [d x] ++ (xs.map d).drop i.toNat)) := .lst upd_same (rvl_app (rvl_app r'.take (.cons rv .nil)) r'.drop)
  have q : (d (xs.take i.toNat ++ [x] ++ xs.drop i.toNat) : PyData) = .list ((xs.map d).take i.toNat ++ [d x] ++ (xs.map d).drop i.toNat) := by
    show PyData.list ((xs.take i.toNat ++ [x] ++ xs.drop i.toNat).map d) = _
    rw [List.map_append, List.map_append, List.map_take, List.map_drop]
    rfl
  rw [q]
  exact z
end Tf

/-! The laws' own turns, and layings drawn by them. -/
namespace Tf
open PySem PySem.Spec PyProof.Rows L2 Dt
section
variable {T : List (Addr × Str)} {K : PySem.W.Frag} {Δ : List Sl} {ta tb te : TE}
theorem ex_eqO {o : Option Pt} {q : Pt} (ha : Ex T Δ ta (d o)) (hb : Ex T Δ tb (d q)) : Ex T Δ (tOp (rEqD K) ta tb) (d (decide (o = some q))) := by
  cases o with
  | none => exact ex_eq (ex_eqX (x := .none) (y := d q) ha hb (by decide +kernel) (shaped_of q (by decide))) (by simp [Dt.d, PyData.eqv])
  | some p => exact ex_eq (ex_eqP (x := p) (y := q) ha hb) (congrArg d (decide_eq_decide.mpr ⟨fun h => by rw [h], fun h => Option.some.inj h⟩))
end
/-- the four cells round a corner, as the laws have them -/
def cornerCells (c : Pt) : Pt × Pt × Pt × Pt := ((c.1 - 1, c.2 - 1), (c.1, c.2 - 1), (c.1 - 1, c.2), (c.1, c.2))
def turnB (D : Dc Pt) (a b c e : Pt) : Dc Pt := putPair (putPair D a b) c e
def turnP (D : Dc Pt) (c : Pt) : Option (Dc Pt) :=
  if D.get (c.1 - 1, c.2 - 1) = some (c.1, c.2 - 1) ∧ D.get (c.1 - 1, c.2) = some (c.1, c.2) then some (turnB D (c.1 - 1, c.2 - 1) (c.1 - 1, c.2) (c.1, c.2 - 1) (c.1, c.2))
  else if D.get (c.1 - 1, c.2 - 1) = some (c.1 - 1, c.2) ∧ D.get (c.1, c.2 - 1) = some (c.1, c.2) then some (turnB D (c.1 - 1, c.2 - 1) (c.1, c.2 - 1) (c.1 - 1, c.2) (c.1, c.2))
  else none
theorem turnB_get {D : Dc Pt} {a b c e q : Pt} : (turnB D a b c e).get q = if q = e then some c else if q = c then some e else if q = b then some a else if q = a then some b else D.get q := by
  unfold turnB putPair
  rw [put2, put2]
theorem swap_full {cells : List Pt} {D : Dc Pt} {a b c e : Pt} (F : Full cells D) (ac : D.get a = some c) (be : D.get b = some e) (ab : b ∈ beside4 a) (ce : e ∈ beside4 c) (n1 : a ≠ b) (n2 : a ≠ e) (n3 : b ≠ c) (n4 : c ≠ e) (n5 : a ≠ c) (n6 : b ≠ e) : Full cells (turnB D a b c e) := by
  have ca := F.half.sym a c ac
  have eb := F.half.sym b e be
  have old : ∀ q r, q ≠ a → q ≠ b → q ≠ c → q ≠ e → D.get q = some r → r ≠ a ∧ r ≠ b ∧ r ≠ c ∧ r ≠ e := fun q r q1 q2 q3 q4 h => by
    have s := F.half.sym q r h
    refine ⟨fun z => ?_, fun z => ?_, fun z => ?_, fun z => ?_⟩ <;> rw [z] at s
    · rw [ac] at s; exact q3 (Option.some.inj s).symm
    · rw [be] at s; exact q4 (Option.some.inj s).symm
    · rw [ca] at s; exact q1 (Option.some.inj s).symm
    · rw [eb] at s; exact q2 (Option.some.inj s).symm
  have key : ∀ q r, (turnB D a b c e).get q = some r → (q = e ∧ r = c) ∨ (q = c ∧ r = e) ∨ (q = b ∧ r = a) ∨ (q = a ∧ r = b) ∨ (q ≠ e ∧ q ≠ c ∧ q ≠ b ∧ q ≠ a ∧ D.get q = some r) := fun q r h => by
    rw [turnB_get] at h
    by_cases z1 : q = e
    · rw [if_pos z1] at h; exact .inl ⟨z1, (Option.some.inj h).symm⟩
    · rw [if_neg z1] at h
      by_cases z2 : q = c
      · rw [if_pos z2] at h; exact .inr (.inl ⟨z2, (Option.some.inj h).symm⟩)
      · rw [if_neg z2] at h
        by_cases z3 : q = b
        · rw [if_pos z3] at h; exact .inr (.inr (.inl ⟨z3, (Option.some.inj h).symm⟩))
        · rw [if_neg z3] at h
          by_cases z4 : q = a
          · rw [if_pos z4] at h; exact .inr (.inr (.inr (.inl ⟨z4, (Option.some.inj h).symm⟩)))
          · rw [if_neg z4] at h; exact .inr (.inr (.inr (.inr ⟨z1, z2, z3, z4, h⟩)))
  refine ⟨⟨fun q r h => ?_, fun q r h => ?_, fun q r h => ?_⟩, fun q hq => ?_⟩
  · rw [turnB_get]
    rcases key q r h with ⟨rfl, rfl⟩ | ⟨rfl, rfl⟩ | ⟨rfl, rfl⟩ | ⟨rfl, rfl⟩ | ⟨z1, z2, z3, z4, z5⟩
    · rw [if_neg n4, if_pos rfl]
    · rw [if_pos rfl]
    · rw [if_neg n2, if_neg n5, if_neg n1, if_pos rfl]
    · rw [if_neg n6, if_neg n3, if_pos rfl]
    · obtain ⟨w1, w2, w3, w4⟩ := old q r z4 z3 z2 z1 z5
      rw [if_neg w4, if_neg w3, if_neg w2, if_neg w1]
      exact F.half.sym q r z5
  · rcases key q r h with ⟨rfl, rfl⟩ | ⟨rfl, rfl⟩ | ⟨rfl, rfl⟩ | ⟨rfl, rfl⟩ | ⟨z1, z2, z3, z4, z5⟩
    · exact beside_symm ce
    · exact ce
    · exact beside_symm ab
    · exact ab
    · exact F.half.bes q r z5
  · rcases key q r h with ⟨rfl, rfl⟩ | ⟨rfl, rfl⟩ | ⟨rfl, rfl⟩ | ⟨rfl, rfl⟩ | ⟨z1, z2, z3, z4, z5⟩
    · exact F.half.mem _ _ eb
    · exact F.half.mem _ _ ca
    · exact F.half.mem _ _ be
    · exact F.half.mem _ _ ac
    · exact F.half.mem q r z5
  · rw [turnB_get]
    have := F.all q hq
    repeat' split
    all_goals first | rfl | exact this
theorem turn_full {cells : List Pt} {D D' : Dc Pt} {c : Pt} (F : Full cells D) (h : turnP D c = some D') : Full cells D' := by
  unfold turnP at h
  split at h
  · rename_i z
    cases h
    refine swap_full F z.1 z.2 ?_ ?_ ?_ ?_ ?_ ?_ ?_ ?_
    · unfold beside4; simp
    · unfold beside4; simp
    all_goals (simp only [ne_eq, Prod.mk.injEq]; omega)
  · split at h
    · rename_i z
      cases h
      refine swap_full F z.1 z.2 ?_ ?_ ?_ ?_ ?_ ?_ ?_ ?_
      · unfold beside4; simp
      · unfold beside4; simp
      all_goals (simp only [ne_eq, Prod.mk.injEq]; omega)
    · cases h
def turned1 (D : Dc Pt) (c : Pt) : Dc Pt := (turnP D c).getD D
theorem turned1_full {cells : List Pt} {D : Dc Pt} {c : Pt} (F : Full cells D) : Full cells (turned1 D c) := by
  unfold turned1
  cases h : turnP D c with
  | none => exact F
  | some D' => exact turn_full F h
def drawStep (s : Dc Pt × Int) (k : Int) : Dc Pt × Int := (turned1 s.1 (mixed s.2 k % 7, mixed s.2 k / 7 % 7), mixed s.2 k)
def drawnP (D : Dc Pt) (n many : Int) : Dc Pt := ((rangeI 0 many.toNat).foldl drawStep (D, n)).1
theorem drawn_full {cells : List Pt} {D : Dc Pt} {n many : Int} (F : Full cells D) : Full cells (drawnP D n many) := by
  have g : ∀ (l : List Int) (s : Dc Pt × Int), Full cells s.1 → Full cells (l.foldl drawStep s).1 := by
    intro l
    induction l with
    | nil => intro s h; exact h
    | cons k l ih =>
      intro s h
      rw [List.foldl_cons]
      exact ih _ (turned1_full h)
  exact g _ _ F
theorem turned1_nk {D : Dc Pt} {c : Pt} (h : D.keys.Nodup) : (turned1 D c).keys.Nodup := by
  unfold turned1 turnP turnB putPair
  repeat' split
  all_goals first | exact h | exact put_nk (put_nk (put_nk (put_nk h _ _) _ _) _ _) _ _
/-- pieces that are a laying of a floor's cells, few and small -/
structure Lay (cells : List Pt) (D : Dc Pt) : Prop where
  full : Full cells D
  nk : D.keys.Nodup
  sm : cells.length ≤ 36
  sml : ∀ p ∈ cells, small p
theorem Lay.len {cells : List Pt} {D : Dc Pt} (h : Lay cells D) : D.l.length ≤ 36 := keys_len h.nk (fun q x hq => h.full.half.mem q x hq) h.sm
theorem Lay.keys {cells : List Pt} {D : Dc Pt} (h : Lay cells D) : ∀ k ∈ D.keys, small k := fun k hk => by
  obtain ⟨x, hx⟩ := Dc.mem_keys.mp hk
  exact h.sml k (h.full.half.mem k x hx)
theorem Lay.turned1 {cells : List Pt} {D : Dc Pt} {c : Pt} (h : Lay cells D) : Lay cells (turned1 D c) := ⟨turned1_full h.full, turned1_nk h.nk, h.sm, h.sml⟩
abbrev sp__law_turn (K : PySem.W.Frag) : Sp := PuMG (tabs K) 0 false (fun (g : Dc Pt × Pt) es e => es = [d g.2] ∧ e = d g.1 ∧ g.1.l.length ≤ 1000) fun g es e e' r => r = d (turnP g.1 g.2).isSome ∧ e' = d (turned1 g.1 g.2)
abbrev sp__law_drawn_pairs (K : PySem.W.Frag) : Sp := PuN (tabs K) (R3 drawnP fun D n many => (∃ cells, Lay cells D) ∧ 0 ≤ many ∧ many ≤ 1000)
theorem lenTu {K : PySem.W.Frag} {vs : List V} {H : Hp} {Q : VK} {E : XK} (h : sp__law_turn K vs H Q E) : vs.length = 2 := len_puMG (a := 1) h fun g es e z => by rw [z.1]; rfl
theorem lenN3 {T : List (Addr × Str)} {α β γ ν : Type} [Dt α] [Dt β] [Dt γ] [Dt ν] {f : α → β → γ → ν} {pre : α → β → γ → Prop} {vs : List V} {H : Hp} {Q : VK} {E : XK} (h : PuN T (R3 f pre) vs H Q E) : vs.length = 3 := by
  obtain ⟨F, e, s, tb, ⟨x, y, z, rv, hp, rfl⟩, q⟩ := h
  exact rv.length
theorem run_puN3 {T : List (Addr × Str)} {K : PySem.W.Frag} {E : XK} {H : Hp} {t : TS} {α β γ ν : Type} [Dt α] [Dt β] [Dt γ] [Dt ν] {f : α → β → γ → ν} {pre : α → β → γ → Prop} {N : List Str} {vs : List V} {Q : VK} (k : Nat) (h : PuN T (R3 f pre) vs H Q E) (hN : N.length = 3 + k) (run : ∀ x y z, pre x y z → Run T K E (.sh (d x) :: .sh (d y) :: .sh (d z) :: List.replicate k .no) t (resR true (.ok (d (f x y z))))) : t { nx := fun _ H' => Q .non H', rt := Q } (L2.start N vs) H := by
  obtain ⟨F, e, s, tb, ⟨x, y, z, rv, hp, rfl⟩, q⟩ := h
  exact run_px (K := K) (E := E) (n := true) (P := fun es r => ∃ x y z, pre x y z ∧ es = [d x, d y, d z] ∧ r = .ok (d (f x y z))) k 3 ⟨F, [d x, d y, d z], .ok (d (f x y z)), s, tb, rv, ⟨x, y, z, hp, rfl, rfl⟩, fun v F' H' st r z => q v F' H' st r (z rfl)⟩ (fun es r ⟨x, y, z, _, e, _⟩ => by rw [e]; rfl) hN fun es r ⟨x, y, z, hp, e1, e2⟩ => by
    subst e1 e2
    exact run x y z hp
end Tf

/-! Heights: numbers at the corners whose steps along the sides are those of a laying. -/
namespace Tf
open PySem PySem.Spec PyProof.Rows L2 Dt
def sgn2 (p : Pt) : Int := if (p.1 + p.2) % 2 = 0 then 1 else -1
def stepH (D : Dc Pt) (x y : Int) : Int := if D.get (x, y - 1) = some (x, y) then -3 * sgn2 (x, y - 1) else sgn2 (x, y - 1)
def stepV (D : Dc Pt) (x y : Int) : Int := if D.get (x, y) = some (x - 1, y) then -3 * sgn2 (x, y) else sgn2 (x, y)
theorem sgn_cases (p : Pt) : (sgn2 p = 1 ∧ (p.1 + p.2) % 2 = 0) ∨ (sgn2 p = -1 ∧ (p.1 + p.2) % 2 = 1) := by
  unfold sgn2
  by_cases h : (p.1 + p.2) % 2 = 0
  · rw [if_pos h]; exact .inl ⟨rfl, h⟩
  · rw [if_neg h]; exact .inr ⟨rfl, by omega⟩
theorem sgn_of {p : Pt} {s : Int} (h : (s = 1 ∧ (p.1 + p.2) % 2 = 0) ∨ (s = -1 ∧ (p.1 + p.2) % 2 = 1)) : sgn2 p = s := by
  rcases sgn_cases p with ⟨a, b⟩ | ⟨a, b⟩ <;> omega
/-- h's steps along the sides are those of D -/
structure Pot (cells : List Pt) (D : Dc Pt) (h : Pt → Int) : Prop where
  hor : ∀ x y, ((x, y - 1) ∈ cells ∨ (x, y) ∈ cells) → h (x + 1, y) = h (x, y) + stepH D x y
  ver : ∀ x y, ((x, y) ∈ cells ∨ (x - 1, y) ∈ cells) → h (x, y + 1) = h (x, y) + stepV D x y
theorem pot_same {cells : List Pt} {D D' : Dc Pt} {h : Pt → Int} (P : Pot cells D h) (e : ∀ a, D'.get a = D.get a) : Pot cells D' h := by
  refine ⟨fun x y m => ?_, fun x y m => ?_⟩
  · rw [P.hor x y m]; unfold stepH; rw [e]
  · rw [P.ver x y m]; unfold stepV; rw [e]
/-! ### pieces along the stretches -/
structure FlatL (cells : List Pt) (D : Dc Pt) (b : Int → Int) : Prop where
  y0 : ∀ x y, (x, y) ∈ cells → 0 ≤ y
  get : ∀ x y, (x, y) ∈ cells → D.get (x, y) = some (if (x + b y) % 2 = 0 then (x + 1, y) else (x - 1, y))
def flatC (b : Int → Int) : Nat → Int
  | 0 => 0
  | n + 1 => flatC b n + 2 * (if (b n + n) % 2 = 0 then 1 else -1)
def flatH (b : Int → Int) (p : Pt) : Int := flatC b p.2.toNat - (p.1 + p.2) % 2
theorem flat_pot {cells : List Pt} {D : Dc Pt} {b : Int → Int} (F : Full cells D) (L : FlatL cells D b) : Pot cells D (flatH b) := by
  refine ⟨fun x y m => ?_, fun x y m => ?_⟩
  · have n : ¬ D.get (x, y - 1) = some (x, y) := fun z => by
      have := L.get x (y - 1) (F.half.mem _ _ z)
      rw [z] at this
      have := Option.some.inj this
      split at this
      · injection this with u v; omega
      · injection this with u v; omega
    unfold stepH flatH
    rw [if_neg n]
    have s := sgn_cases (x, y - 1)
    simp only at s ⊢
    omega
  · have y0 : 0 ≤ y := m.elim (L.y0 x y) (L.y0 (x - 1) y)
    have e : D.get (x, y) = some (x - 1, y) ↔ ¬ (x + b y) % 2 = 0 := by
      by_cases c : (x, y) ∈ cells
      · rw [L.get x y c]
        by_cases z : (x + b y) % 2 = 0
        · rw [if_pos z]
          exact ⟨fun q => by injection q with q; injection q with u v; omega, fun q => (q z).elim⟩
        · rw [if_neg z]
          exact ⟨fun _ => z, fun _ => rfl⟩
      · have c' := m.resolve_left c
        have g := L.get _ _ c'
        have i := F.half.mem _ _ (F.half.sym _ _ g)
        by_cases z : (x - 1 + b y) % 2 = 0
        · rw [if_pos z] at i
          have e : x - 1 + 1 = x := by omega
          rw [e] at i
          exact (c i).elim
        · constructor
          · intro q
            exact (c (F.half.mem _ _ q)).elim
          · intro q
            omega
    unfold stepV flatH
    have en : (y + 1).toNat = y.toNat + 1 := by omega
    have cs : flatC b (y.toNat + 1) = flatC b y.toNat + 2 * (if (b y + y) % 2 = 0 then 1 else -1) := by
      have eq : ((y.toNat : Nat) : Int) = y := by omega
      show flatC b y.toNat + 2 * (if (b ((y.toNat : Nat) : Int) + ((y.toNat : Nat) : Int)) % 2 = 0 then 1 else -1) = _
      rw [eq]
    have s := sgn_cases (x, y)
    simp only [en, cs] at s ⊢
    by_cases z : (x + b y) % 2 = 0
    · rw [if_neg (fun q => e.mp q z)]
      by_cases w : (b y + y) % 2 = 0
      · rw [if_pos w]; omega
      · rw [if_neg w]; omega
    · rw [if_pos (e.mpr z)]
      by_cases w : (b y + y) % 2 = 0
      · rw [if_pos w]; omega
      · rw [if_neg w]; omega
/-- turned about -/
theorem pot_flip {cells cells' : List Pt} {D D' : Dc Pt} {h : Pt → Int} (P : Pot cells D h) (F : Full cells D) (hc : ∀ x y : Int, (x, y) ∈ cells' ↔ (y, x) ∈ cells) (hg : ∀ x y u v : Int, D'.get (x, y) = some (u, v) ↔ D.get (y, x) = some (v, u)) : Pot cells' D' fun p => - h (p.2, p.1) := by
  refine ⟨fun x y m => ?_, fun x y m => ?_⟩
  · have p := P.ver y x (by rw [hc, hc] at m; exact m.symm)
    have e : D'.get (x, y - 1) = some (x, y) ↔ D.get (y, x) = some (y - 1, x) := by
      rw [hg]
      exact ⟨F.half.sym _ _, F.half.sym _ _⟩
    unfold stepH
    unfold stepV at p
    have s1 := sgn_cases (x, y - 1)
    have s2 := sgn_cases (y, x)
    simp only at s1 s2 ⊢
    by_cases z : D.get (y, x) = some (y - 1, x)
    · rw [if_pos z] at p
      rw [if_pos (e.mpr z)]
      omega
    · rw [if_neg z] at p
      rw [if_neg (fun q => z (e.mp q))]
      omega
  · have p := P.hor y x (by rw [hc, hc] at m; exact m.symm)
    have e : D'.get (x, y) = some (x - 1, y) ↔ D.get (y, x - 1) = some (y, x) := by
      rw [hg]
      exact ⟨F.half.sym _ _, F.half.sym _ _⟩
    unfold stepV
    unfold stepH at p
    have s1 := sgn_cases (x, y)
    have s2 := sgn_cases (y, x - 1)
    simp only at s1 s2 ⊢
    by_cases z : D.get (y, x - 1) = some (y, x)
    · rw [if_pos z] at p
      rw [if_pos (e.mpr z)]
      omega
    · rw [if_neg z] at p
      rw [if_neg (fun q => z (e.mp q))]
      omega
/-! ### a turn -/
def Inner (cells : List Pt) (c : Pt) : Prop := (c.1 - 1, c.2 - 1) ∈ cells ∧ (c.1, c.2 - 1) ∈ cells ∧ (c.1 - 1, c.2) ∈ cells ∧ (c.1, c.2) ∈ cells
/-- the four cells round c, in D and turned in D' -/
inductive TurnF (D D' : Dc Pt) (x y : Int) : Int → Prop
  | flat (a : D.get (x - 1, y - 1) = some (x, y - 1)) (b : D.get (x, y - 1) = some (x - 1, y - 1)) (c : D.get (x - 1, y) = some (x, y)) (e : D.get (x, y) = some (x - 1, y))
      (a' : D'.get (x - 1, y - 1) = some (x - 1, y)) (b' : D'.get (x, y - 1) = some (x, y)) (c' : D'.get (x - 1, y) = some (x - 1, y - 1)) (e' : D'.get (x, y) = some (x, y - 1)) : TurnF D D' x y (-4 * sgn2 (x, y))
  | up (a : D.get (x - 1, y - 1) = some (x - 1, y)) (b : D.get (x, y - 1) = some (x, y)) (c : D.get (x - 1, y) = some (x - 1, y - 1)) (e : D.get (x, y) = some (x, y - 1))
      (a' : D'.get (x - 1, y - 1) = some (x, y - 1)) (b' : D'.get (x, y - 1) = some (x - 1, y - 1)) (c' : D'.get (x - 1, y) = some (x, y)) (e' : D'.get (x, y) = some (x - 1, y)) : TurnF D D' x y (4 * sgn2 (x, y))
theorem pne {a b u v : Int} (h : ¬ (a = u ∧ b = v)) : ¬ (a, b) = ((u, v) : Pt) := fun z => h (by injection z with p q; exact ⟨p, q⟩)
theorem turn_facts {cells : List Pt} {D D' : Dc Pt} {x y : Int} (F : Full cells D) (t : turnP D (x, y) = some D') :
    (∃ s, TurnF D D' x y s) ∧ Inner cells (x, y) ∧ ∀ u v : Int, ¬ ((u = x - 1 ∨ u = x) ∧ (v = y - 1 ∨ v = y)) → D'.get (u, v) = D.get (u, v) := by
  unfold turnP at t
  simp only at t
  have mm := F.half.mem
  have ss := F.half.sym
  split at t
  · rename_i z
    obtain ⟨z1, z2⟩ := z
    cases t
    have w1 := ss _ _ z1
    have w2 := ss _ _ z2
    refine ⟨⟨_, .flat z1 w1 z2 w2 ?_ ?_ ?_ ?_⟩, ⟨mm _ _ z1, mm _ _ w1, mm _ _ z2, mm _ _ w2⟩, fun u v n => ?_⟩
    all_goals rw [turnB_get]
    · rw [if_neg (pne (by omega)), if_neg (pne (by omega)), if_neg (pne (by omega)), if_pos rfl]
    · rw [if_neg (pne (by omega)), if_pos rfl]
    · rw [if_neg (pne (by omega)), if_neg (pne (by omega)), if_pos rfl]
    · rw [if_pos rfl]
    · rw [if_neg (pne (by omega)), if_neg (pne (by omega)), if_neg (pne (by omega)), if_neg (pne (by omega))]
  · split at t
    · rename_i z
      obtain ⟨z1, z2⟩ := z
      cases t
      have w1 := ss _ _ z1
      have w2 := ss _ _ z2
      refine ⟨⟨_, .up z1 z2 w1 w2 ?_ ?_ ?_ ?_⟩, ⟨mm _ _ z1, mm _ _ z2, mm _ _ w1, mm _ _ w2⟩, fun u v n => ?_⟩
      all_goals rw [turnB_get]
      · rw [if_neg (pne (by omega)), if_neg (pne (by omega)), if_neg (pne (by omega)), if_pos rfl]
      · rw [if_neg (pne (by omega)), if_neg (pne (by omega)), if_pos rfl]
      · rw [if_neg (pne (by omega)), if_pos rfl]
      · rw [if_pos rfl]
      · rw [if_neg (pne (by omega)), if_neg (pne (by omega)), if_neg (pne (by omega)), if_neg (pne (by omega))]
    · cases t
theorem some_ne {a b u v : Int} (h : ¬ (a = u ∧ b = v)) : ¬ (some ((a, b) : Pt) = some (u, v)) := fun z => pne h (Option.some.inj z)
/-- at sides that don't touch the corner nothing changes -/
theorem turn_stepH {cells : List Pt} {D D' : Dc Pt} {x y s u v : Int} (T : TurnF D D' x y s) (same : ∀ u v : Int, ¬ ((u = x - 1 ∨ u = x) ∧ (v = y - 1 ∨ v = y)) → D'.get (u, v) = D.get (u, v)) (n : ¬ ((u = x - 1 ∨ u = x) ∧ v = y)) : stepH D' u v = stepH D u v := by
  have e : D'.get (u, v - 1) = some (u, v) ↔ D.get (u, v - 1) = some (u, v) := by
    by_cases z : (u = x - 1 ∨ u = x) ∧ (v - 1 = y - 1 ∨ v - 1 = y)
    · obtain ⟨z1, z2⟩ := z
      have v2 : v - 1 = y := z2.resolve_left fun q => n ⟨z1, by omega⟩
      rcases z1 with rfl | rfl <;> rw [v2] <;> cases T with
      | flat a b c e a' b' c' e' => (first | rw [c, c'] | rw [e, e']); exact ⟨fun q => (some_ne (by omega) q).elim, fun q => (some_ne (by omega) q).elim⟩
      | up a b c e a' b' c' e' => (first | rw [c, c'] | rw [e, e']); exact ⟨fun q => (some_ne (by omega) q).elim, fun q => (some_ne (by omega) q).elim⟩
    · rw [same u (v - 1) z]
  unfold stepH
  by_cases z : D.get (u, v - 1) = some (u, v)
  · rw [if_pos z, if_pos (e.mpr z)]
  · rw [if_neg z, if_neg fun q => z (e.mp q)]
theorem turn_stepV {cells : List Pt} {D D' : Dc Pt} {x y s u v : Int} (T : TurnF D D' x y s) (same : ∀ u v : Int, ¬ ((u = x - 1 ∨ u = x) ∧ (v = y - 1 ∨ v = y)) → D'.get (u, v) = D.get (u, v)) (n : ¬ (u = x ∧ (v = y - 1 ∨ v = y))) : stepV D' u v = stepV D u v := by
  have e : D'.get (u, v) = some (u - 1, v) ↔ D.get (u, v) = some (u - 1, v) := by
    by_cases z : (u = x - 1 ∨ u = x) ∧ (v = y - 1 ∨ v = y)
    · obtain ⟨z1, z2⟩ := z
      have u2 : u = x - 1 := z1.resolve_right fun q => n ⟨q, z2⟩
      subst u2
      rcases z2 with rfl | rfl <;> cases T with
      | flat a b c e a' b' c' e' => (first | rw [a, a'] | rw [c, c']); exact ⟨fun q => (some_ne (by omega) q).elim, fun q => (some_ne (by omega) q).elim⟩
      | up a b c e a' b' c' e' => (first | rw [a, a'] | rw [c, c']); exact ⟨fun q => (some_ne (by omega) q).elim, fun q => (some_ne (by omega) q).elim⟩
    · rw [same u v z]
  unfold stepV
  by_cases z : D.get (u, v) = some (u - 1, v)
  · rw [if_pos z, if_pos (e.mpr z)]
  · rw [if_neg z, if_neg fun q => z (e.mp q)]
def bump (h : Pt → Int) (c : Pt) (s : Int) : Pt → Int := fun p => if p = c then h p + s else h p
theorem bump_ne {h : Pt → Int} {x y s u v : Int} (n : ¬ (u = x ∧ v = y)) : bump h (x, y) s (u, v) = h (u, v) := if_neg (pne n)
theorem bump_at {h : Pt → Int} {c : Pt} {s : Int} : bump h c s c = h c + s := if_pos rfl
theorem pot_turn {cells : List Pt} {D D' : Dc Pt} {h : Pt → Int} {x y : Int} (F : Full cells D) (P : Pot cells D h) (t : turnP D (x, y) = some D') :
    ∃ s, (s = 4 ∨ s = -4) ∧ TurnF D D' x y s ∧ Pot cells D' (bump h (x, y) s) ∧ Inner cells (x, y) := by
  obtain ⟨⟨s, T⟩, ⟨i1, i2, i3, i4⟩, same⟩ := turn_facts F t
  have sc := sgn_cases (x, y)
  have s4 : s = 4 ∨ s = -4 := by cases T <;> omega
  have v1 := P.ver x (y - 1) (.inl i2)
  have v2 := P.ver x y (.inl i4)
  have h1 := P.hor (x - 1) y (.inr i3)
  have h2 := P.hor x y (.inr i4)
  have ey : y - 1 + 1 = y := by omega
  have ex : x - 1 + 1 = x := by omega
  rw [ey] at v1
  rw [ex] at h1
  unfold stepV at v1 v2
  unfold stepH at h1 h2
  have g1 := sgn_cases (x, y - 1)
  have g2 := sgn_cases (x - 1, y - 1)
  simp only at g1 g2 sc
  refine ⟨s, s4, T, ⟨fun u v m => ?_, fun u v m => ?_⟩, ⟨i1, i2, i3, i4⟩⟩
  · by_cases z1 : u = x ∧ v = y
    · obtain ⟨rfl, rfl⟩ := z1
      rw [bump_at, bump_ne (by omega)]
      unfold stepH
      cases T with
      | flat a b c e a' b' c' e' => rw [if_neg (by rw [b]; exact some_ne (by omega))] at h2; rw [if_pos b']; omega
      | up a b c e a' b' c' e' => rw [if_pos b] at h2; rw [if_neg (by rw [b']; exact some_ne (by omega))]; omega
    · by_cases z2 : u = x - 1 ∧ v = y
      · obtain ⟨rfl, rfl⟩ := z2
        rw [ex, bump_at, bump_ne (by omega)]
        unfold stepH
        cases T with
        | flat a b c e a' b' c' e' => rw [if_neg (by rw [a]; exact some_ne (by omega))] at h1; rw [if_pos a']; omega
        | up a b c e a' b' c' e' => rw [if_pos a] at h1; rw [if_neg (by rw [a']; exact some_ne (by omega))]; omega
      · rw [bump_ne (by omega), bump_ne (by omega), turn_stepH (cells := cells) T same (by omega)]
        exact P.hor u v m
  · by_cases z1 : u = x ∧ v = y
    · obtain ⟨rfl, rfl⟩ := z1
      rw [bump_at, bump_ne (by omega)]
      unfold stepV
      cases T with
      | flat a b c e a' b' c' e' => rw [if_pos e] at v2; rw [if_neg (by rw [e']; exact some_ne (by omega))]; omega
      | up a b c e a' b' c' e' => rw [if_neg (by rw [e]; exact some_ne (by omega))] at v2; rw [if_pos e']; omega
    · by_cases z2 : u = x ∧ v = y - 1
      · obtain ⟨rfl, rfl⟩ := z2
        rw [ey, bump_at, bump_ne (by omega)]
        unfold stepV
        cases T with
        | flat a b c e a' b' c' e' => rw [if_pos b] at v1; rw [if_neg (by rw [b']; exact some_ne (by omega))]; omega
        | up a b c e a' b' c' e' => rw [if_neg (by rw [b]; exact some_ne (by omega))] at v1; rw [if_pos b']; omega
      · rw [bump_ne (by omega), bump_ne (by omega), turn_stepV (cells := cells) T same (by omega)]
        exact P.ver u v m
/-! ### drawn layings -/
/-- heights that are the same at all corners but inner ones -/
def Off (cells : List Pt) (h h' : Pt → Int) : Prop := ∀ p, ¬ Inner cells p → h' p = h p
theorem pot_turned1 {cells : List Pt} {D : Dc Pt} {h : Pt → Int} {c : Pt} (F : Full cells D) (P : Pot cells D h) : ∃ h', Pot cells (turned1 D c) h' ∧ Off cells h h' := by
  unfold turned1
  cases t : turnP D c with
  | none => exact ⟨h, P, fun _ _ => rfl⟩
  | some D' =>
    obtain ⟨x, y⟩ := c
    obtain ⟨s, _, _, P', I⟩ := pot_turn F P t
    refine ⟨_, P', fun p n => ?_⟩
    unfold bump
    rw [if_neg fun z => n (by rw [z]; exact I)]
theorem pot_drawn {cells : List Pt} {D : Dc Pt} {h : Pt → Int} {n many : Int} (F : Full cells D) (P : Pot cells D h) : ∃ h', Pot cells (drawnP D n many) h' ∧ Off cells h h' := by
  have g : ∀ (l : List Int) (s : Dc Pt × Int) (k : Pt → Int), Full cells s.1 → Pot cells s.1 k → ∃ h', Pot cells (l.foldl drawStep s).1 h' ∧ Off cells k h' := by
    intro l
    induction l with
    | nil => intro s k _ h; exact ⟨k, h, fun _ _ => rfl⟩
    | cons j l ih =>
      intro s k F h
      rw [List.foldl_cons]
      obtain ⟨k1, p1, o1⟩ := pot_turned1 (c := (mixed s.2 j % 7, mixed s.2 j / 7 % 7)) F h
      obtain ⟨k2, p2, o2⟩ := ih (drawStep s j) k1 (turned1_full F) p1
      exact ⟨k2, p2, fun p q => (o2 p q).trans (o1 p q)⟩
  exact g _ _ h F P
/-! ### the first layings have heights -/
def parB (b : Int) : List Int → Bool
  | [] => true
  | [_] => true
  | a :: c :: r => decide (a % 2 = b) && parB b r
def parOf (r : Row) : Int := (ones r).headD 0 % 2
def ParRows (rows : BR) : Prop := ∀ r ∈ rows, parB (parOf r) (ones r) = true
theorem stretch_par : ∀ w b z : _root_.Fin 7, b.val + z.val ≤ w.val → parB (parOf (stretch (w.val : Int) (b.val : Int) (z.val : Int))) (ones (stretch (w.val : Int) (b.val : Int) (z.val : Int))) = true := by decide +kernel
theorem par_stretch {w b z : Int} (w6 : w ≤ 6) (b0 : 0 ≤ b) (z0 : 0 ≤ z) (h : b + z ≤ w) : parB (parOf (stretch w b z)) (ones (stretch w b z)) = true := by
  have := stretch_par ⟨w.toNat, by omega⟩ ⟨b.toNat, by omega⟩ ⟨z.toNat, by omega⟩ (by show b.toNat + z.toNat ≤ w.toNat; omega)
  have e1 : ((w.toNat : Nat) : Int) = w := by omega
  have e2 : ((b.toNat : Nat) : Int) = b := by omega
  have e3 : ((z.toNat : Nat) : Int) = z := by omega
  simp only [e1, e2, e3] at this
  exact this
theorem fold_par {w more : Int} {even : Bool} : ∀ (ys : List Int) (g : Dr), DrOk w g → ParRows g.rows → ParRows (ys.foldl (drStep w more even) g).rows
  | [], g, _, h => h
  | y :: ys, g, k, h => by
    rw [List.foldl_cons]
    have sz := drSize_ok (more := more) (even := even) (y := y) k.w2 k.w6
    have bg := drBegin_ok (more := more) (y := y) k sz.1 sz.2
    refine fold_par ys _ (drStep_ok k) fun r hr => ?_
    rcases List.mem_append.mp hr with z | z
    · exact h r z
    · rw [List.mem_singleton.mp z]
      exact par_stretch k.w6 bg.1 (by omega) bg.2.1
theorem par_rowsBy (cell more : Int) (even : Bool) : ParRows (rowsBy cell more even) :=
  fold_par _ _ ⟨by omega, by omega, by show (0 : Int) ≤ 0; omega, by show (0 : Int) ≤ 2 + cell % 5 - 1; omega, by show 2 + cell % 5 - 1 ≤ 2 + cell % 5 - 1; omega⟩ fun r hr => by cases hr
theorem fixedE_par : ∀ rows ∈ fixedE, (rows.all fun r => parB (parOf r) (ones r)) = true := by decide +kernel
theorem base_par (ns : List Int) : ParRows (baseRows ns) := by
  unfold baseRows
  by_cases h : cellAt ns 0 % 7 = 6
  · rw [if_pos h]
    have m : fixedE.getD (cellAt ns 0 / 7 % 4).toNat default ∈ fixedE := by
      have hl : (cellAt ns 0 / 7 % 4).toNat < fixedE.length := by show _ < 4; omega
      rw [List.getD_eq_getElem?_getD, List.getElem?_eq_getElem hl]
      exact List.getElem_mem hl
    exact fun r hr => List.all_eq_true.mp (fixedE_par _ m) r hr
  · rw [if_neg h]
    exact par_rowsBy _ _ _
def parN (b x : Int) : Int := if x % 2 = b then x + 1 else x - 1
theorem flatRow_get {up : Bool} {y b : Int} : ∀ {xs : List Int} {D : Dc Pt}, pairUp xs = true → parB b xs = true → xs.Nodup →
    (∀ a, (∀ x ∈ xs, a ≠ pl up x y) → (flatRow up y D xs).get a = D.get a) ∧ ∀ x ∈ xs, (flatRow up y D xs).get (pl up x y) = some (pl up (parN b x) y)
  | [], D, _, _, _ => ⟨fun a _ => rfl, fun x hx => by cases hx⟩
  | [_], D, e, _, _ => by cases e
  | a :: c :: r, D, e, pb, nd => by
    have e' : (decide (c = a + 1) && pairUp r) = true := e
    obtain ⟨e1, e2⟩ := Bool.and_eq_true _ _ ▸ e'
    have e1 := of_decide_eq_true e1
    subst e1
    have pb' : (decide (a % 2 = b) && parB b r) = true := pb
    obtain ⟨p1, p2⟩ := Bool.and_eq_true _ _ ▸ pb'
    have p1 := of_decide_eq_true p1
    rw [List.nodup_cons, List.nodup_cons] at nd
    obtain ⟨n1, n2, n3⟩ := nd
    rw [flatRow_cons]
    obtain ⟨k1, k2⟩ := flatRow_get (up := up) (y := y) (b := b) (xs := r) (D := putPair D (pl up a y) (pl up (a + 1) y)) e2 p2 n3
    have pg : ∀ q, (putPair D (pl up a y) (pl up (a + 1) y)).get q = if q = pl up (a + 1) y then some (pl up a y) else if q = pl up a y then some (pl up (a + 1) y) else D.get q := fun q => put2
    refine ⟨fun q hq => ?_, fun x hx => ?_⟩
    · rw [k1 q fun x hx => hq x (by simp [hx]), pg, if_neg (hq (a + 1) (by simp)), if_neg (hq a (by simp))]
    · rcases List.mem_cons.mp hx with rfl | hx
      · rw [k1 _ fun x' hx' z => n1 (by rw [(pl_inj z).1]; exact List.mem_cons_of_mem _ hx'), pg, if_neg (fun z => by have := (pl_inj z).1; omega), if_pos rfl]
        unfold parN
        rw [if_pos p1]
      · rcases List.mem_cons.mp hx with rfl | hx
        · rw [k1 _ fun x' hx' z => n2 (by rw [(pl_inj z).1]; exact hx'), pg, if_pos rfl]
          unfold parN
          rw [if_neg (by omega)]
          have : a + 1 - 1 = a := by omega
          rw [this]
        · exact k2 x hx
theorem flat_gets {rows : BR} {up : Bool} (ev : EvenRows rows) (pr : ParRows rows) : ∀ (ys : List Int) (D : Dc Pt), ys.Nodup → (∀ y ∈ ys, 0 ≤ y ∧ y < rows.length) →
    (∀ a, (∀ y ∈ ys, ∀ x ∈ ones (rowAt rows y), a ≠ pl up x y) → (ys.foldl (fun D y => flatRow up y D (ones (rowAt rows y))) D).get a = D.get a) ∧
    ∀ y ∈ ys, ∀ x ∈ ones (rowAt rows y), (ys.foldl (fun D y => flatRow up y D (ones (rowAt rows y))) D).get (pl up x y) = some (pl up (parN (parOf (rowAt rows y)) x) y)
  | [], D, _, _ => ⟨fun _ _ => rfl, fun y hy => by cases hy⟩
  | y :: ys, D, nd, hy => by
    rw [List.nodup_cons] at nd
    have yr := hy y List.mem_cons_self
    have rm : rowAt rows y ∈ rows := by
      unfold rowAt
      rw [List.getD_eq_getElem?_getD, List.getElem?_eq_getElem (by omega)]
      exact List.getElem_mem _
    obtain ⟨h1, h2⟩ := flatRow_get (up := up) (y := y) (D := D) (ev _ rm) (pr _ rm) (ones_nodup _)
    obtain ⟨k1, k2⟩ := flat_gets (up := up) ev pr ys (flatRow up y D (ones (rowAt rows y))) nd.2 fun z hz => hy z (List.mem_cons_of_mem _ hz)
    rw [List.foldl_cons]
    refine ⟨fun a ha => ?_, fun z hz x hx => ?_⟩
    · rw [k1 a fun z hz => ha z (List.mem_cons_of_mem _ hz), h1 a (ha y List.mem_cons_self)]
    · rcases List.mem_cons.mp hz with rfl | hz
      · rw [k1 _ fun w hw x' hx' e => nd.1 (by rw [(pl_inj e).2]; exact hw), h2 x hx]
      · exact k2 z hz x hx
theorem flat_get {rows : BR} {up : Bool} (ev : EvenRows rows) (pr : ParRows rows) {x y : Int} (y0 : 0 ≤ y) (y1 : y < rows.length) (hx : x ∈ ones (rowAt rows y)) : (flatPairs rows up).get (pl up x y) = some (pl up (parN (parOf (rowAt rows y)) x) y) :=
  (flat_gets ev pr (rangeI 0 rows.length) ⟨[]⟩ (rangeI_nodup _ _) (fun y hy => by have := mem_rangeI.mp hy; omega)).2 y (mem_rangeI.mpr (by omega)) x hx
theorem parOf_bit (r : Row) : parOf r = 0 ∨ parOf r = 1 := by unfold parOf; omega
theorem flat_flatL {rows : BR} (ev : EvenRows rows) (pr : ParRows rows) : FlatL (lawCells rows) (flatPairs rows false) fun y => parOf (rowAt rows y) := by
  refine ⟨fun x y h => ?_, fun x y h => ?_⟩
  · obtain ⟨y', hy, x', hx, e⟩ := (flat_law _).mp h
    have e' : (x, y) = (x', y') := e
    injection e' with e1 e2
    omega
  · obtain ⟨y', hy, x', hx, e⟩ := (flat_law _).mp h
    have e' : (x, y) = (x', y') := e
    injection e' with e1 e2
    subst e1 e2
    have g := flat_get (up := false) ev pr hy.1 hy.2 hx
    have g' : (flatPairs rows false).get (x, y) = some (parN (parOf (rowAt rows y)) x, y) := g
    rw [g']
    unfold parN
    have pb := parOf_bit (rowAt rows y)
    by_cases z : x % 2 = parOf (rowAt rows y)
    · rw [if_pos z, if_pos (by omega)]
    · rw [if_neg z, if_neg (by omega)]
theorem flat_swap {rows : BR} (ev : EvenRows rows) (pr : ParRows rows) (x y u v : Int) : (flatPairs rows true).get (x, y) = some (u, v) ↔ (flatPairs rows false).get (y, x) = some (v, u) := by
  have go : ∀ up, ∀ a, (∀ y ∈ rangeI 0 rows.length, ∀ x ∈ ones (rowAt rows y), a ≠ pl up x y) → (flatPairs rows up).get a = none := fun up =>
    (flat_gets (up := up) ev pr (rangeI 0 rows.length) ⟨[]⟩ (rangeI_nodup _ _) (fun y hy => by have := mem_rangeI.mp hy; omega)).1
  by_cases h : ∃ y' ∈ rangeI 0 rows.length, ∃ x' ∈ ones (rowAt rows y'), (x, y) = pl true x' y'
  · obtain ⟨y', hy, x', hx, e⟩ := h
    have e' : (x, y) = (y', x') := e
    injection e' with e1 e2
    subst e1 e2
    have r := mem_rangeI.mp hy
    have g1 := flat_get (up := true) ev pr r.1 (by omega) hx
    have g2 := flat_get (up := false) ev pr r.1 (by omega) hx
    have g1' : (flatPairs rows true).get (x, y) = some (x, parN (parOf (rowAt rows x)) y) := g1
    have g2' : (flatPairs rows false).get (y, x) = some (parN (parOf (rowAt rows x)) y, x) := g2
    rw [g1', g2']
    constructor
    · intro q; injection q with q; injection q with a b; rw [b, a]
    · intro q; injection q with q; injection q with a b; rw [a, b]
  · have n1 := go true (x, y) fun y' hy x' hx z => h ⟨y', hy, x', hx, z⟩
    have n2 := go false (y, x) fun y' hy x' hx z => h ⟨y', hy, x', hx, by
      have z' : (y, x) = (x', y') := z
      injection z' with a b
      subst a b
      rfl⟩
    rw [n1, n2]
    exact ⟨fun q => (nomatch q), fun q => (nomatch q)⟩
theorem can_pot (ns : List Int) : ∃ h, Pot (lawCells (canRows ns)) (flatPairs (baseRows ns) (upOf ns)) h := by
  obtain ⟨fine, ev⟩ := base_ok ns
  have pr := base_par ns
  have full : Full (lawCells (baseRows ns)) (flatPairs (baseRows ns) false) := flat_full ev flat_law
  have p0 := flat_pot full (flat_flatL ev pr)
  unfold canRows
  cases upOf ns with
  | true =>
    rw [if_pos rfl]
    exact ⟨_, pot_flip p0 full (fun x y => by rw [turned_cells fine.br.2.2.2]; rfl) (flat_swap ev pr)⟩
  | false =>
    rw [if_neg (by decide)]
    exact ⟨_, p0⟩
end Tf

/-! Numbers laid down by going from corner to corner. -/
namespace Tf
open PySem PySem.Spec PyProof.Rows L2 Dt
/-- a corner of one of the cells -/
def Cor (cells : List Pt) (p : Pt) : Prop := (p.1 - 1, p.2 - 1) ∈ cells ∨ (p.1, p.2 - 1) ∈ cells ∨ (p.1 - 1, p.2) ∈ cells ∨ (p.1, p.2) ∈ cells
/-- a side of a cell leads from one to the other -/
def Adj (cells : List Pt) (p q : Pt) : Prop :=
  (q = (p.1 + 1, p.2) ∧ ((p.1, p.2 - 1) ∈ cells ∨ (p.1, p.2) ∈ cells)) ∨ (q = (p.1, p.2 + 1) ∧ ((p.1, p.2) ∈ cells ∨ (p.1 - 1, p.2) ∈ cells)) ∨
  (q = (p.1 - 1, p.2) ∧ ((p.1 - 1, p.2 - 1) ∈ cells ∨ (p.1 - 1, p.2) ∈ cells)) ∨ (q = (p.1, p.2 - 1) ∧ ((p.1, p.2 - 1) ∈ cells ∨ (p.1 - 1, p.2 - 1) ∈ cells))
theorem Adj.cor {cells : List Pt} {p q : Pt} (h : Adj cells p q) : Cor cells q := by
  obtain ⟨x, y⟩ := p
  unfold Cor
  have e1 : x + 1 - 1 = x := by omega
  have e2 : y + 1 - 1 = y := by omega
  have e3 : x - 1 + 1 = x := by omega
  rcases h with ⟨rfl, h⟩ | ⟨rfl, h⟩ | ⟨rfl, h⟩ | ⟨rfl, h⟩
  · simp only [e1] at h ⊢
    rcases h with h | h
    · exact .inl h
    · exact .inr (.inr (.inl h))
  · simp only [e2] at h ⊢
    rcases h with h | h
    · exact .inr (.inl h)
    · exact .inl h
  · simp only at h ⊢
    rcases h with h | h
    · exact .inr (.inl h)
    · exact .inr (.inr (.inr h))
  · simp only at h ⊢
    rcases h with h | h
    · exact .inr (.inr (.inr h))
    · exact .inr (.inr (.inl h))
theorem Cor.self {cells : List Pt} {p : Pt} (h : p ∈ cells) : Cor cells p := .inr (.inr (.inr h))
/-- what is closed under sides and holds the first corner of a cell holds all corners -/
theorem closed_all {cells : List Pt} {s : Pt} {S : Pt → Prop} (cn : ConnS fun p => p ∈ cells) (hs : s ∈ cells) (h0 : S s) (cl : ∀ p q, S p → Adj cells p q → S q) {p : Pt} (hp : Cor cells p) : S p := by
  have down : ∀ c : Pt, c ∈ cells → S c → S (c.1 + 1, c.2) ∧ S (c.1, c.2 + 1) ∧ S (c.1 + 1, c.2 + 1) := fun c hc h => by
    have a := cl c (c.1 + 1, c.2) h (.inl ⟨rfl, .inr hc⟩)
    have b := cl c (c.1, c.2 + 1) h (.inr (.inl ⟨rfl, .inl hc⟩))
    refine ⟨a, b, cl (c.1, c.2 + 1) (c.1 + 1, c.2 + 1) b (.inl ⟨rfl, .inl ?_⟩)⟩
    show (c.1, c.2 + 1 - 1) ∈ cells
    have e : c.2 + 1 - 1 = c.2 := by omega
    rw [e]
    exact hc
  have all : ∀ c, c ∈ cells → S c := fun c hc => by
    have r := cn s c hs hc
    clear hc hp
    induction r with
    | refl => exact h0
    | @step b c r n m ih =>
      have hb : b ∈ cells := by
        cases r with
        | refl => exact hs
        | step _ _ m => exact m
      obtain ⟨d1, d2, d3⟩ := down b hb ih
      unfold beside4 at n
      simp only [List.mem_cons, List.not_mem_nil, or_false] at n
      rcases n with rfl | rfl | rfl | rfl
      · exact cl b (b.1, b.2 - 1) ih (.inr (.inr (.inr ⟨rfl, .inl m⟩)))
      · exact cl b (b.1 - 1, b.2) ih (.inr (.inr (.inl ⟨rfl, .inr m⟩)))
      · exact d1
      · exact d2
  rcases hp with h | h | h | h
  · have := (down _ h (all _ h)).2.2
    simpa using this
  · have := (down _ h (all _ h)).2.1
    simpa using this
  · have := (down _ h (all _ h)).1
    simpa using this
  · exact all _ h
/-! ### the walk -/
section
variable (nb : Pt → List (Pt × Int))
def wVisit (here : Pt) (g : Dc Int × List Pt) (e : Pt × Int) : Dc Int × List Pt := if (g.1.get e.1).isSome = true then g else (g.1.put e.1 ((g.1.get here).getD default + e.2), g.2 ++ [e.1])
def wTurn (N : Dc Int) (W : List Pt) (here : Pt) : Dc Int × List Pt := (nb here).foldl (wVisit here) (N, W)
def wGo : Nat → Dc Int × List Pt → Dc Int × List Pt
  | 0, g => g
  | n + 1, g => match g.2.getLast? with
    | none => g
    | some here => wGo n (wTurn nb g.1 g.2.dropLast here)
def wStart (s : Pt) : Dc Int × List Pt := (⟨[(s, 0)]⟩, [s])
def wAll (s : Pt) : Dc Int := (wGo nb 400 (wStart s)).1
theorem wGo_nil {n : Nat} {N : Dc Int} : wGo nb n (N, []) = (N, []) := by cases n <;> rfl
theorem wGo_last {n : Nat} {N : Dc Int} {W : List Pt} {here : Pt} : wGo nb (n + 1) (N, W ++ [here]) = wGo nb n (wTurn nb N W here) := by
  have e : (W ++ [here]).getLast? = some here := by simp
  have e2 : (W ++ [here]).dropLast = W := by simp
  simp only [wGo, e, e2]
end
/-- what is so while one goes -/
structure Wk (C : Pt → Prop) (h : Pt → Int) (s : Pt) (g : Dc Int × List Pt) : Prop where
  val : ∀ p v, g.1.get p = some v → C p ∧ v = h p - h s
  nk : g.1.keys.Nodup
  wk : ∀ p ∈ g.2, (g.1.get p).isSome = true
  st : (g.1.get s).isSome = true
theorem get_put_some {ν : Type} {D : Dc ν} {k q : Pt} {x : ν} (h : (D.get q).isSome = true) : ((D.put k x).get q).isSome = true := by
  rw [Dc.get_put]
  split
  · rfl
  · exact h
def wMeas (m : Nat) (g : Dc Int × List Pt) : Nat := 2 * (m - g.1.l.length) + g.2.length
section
variable {cells cs : List Pt} {h : Pt → Int} {s : Pt} {nb : Pt → List (Pt × Int)}
theorem wk_len {C : Pt → Prop} {g : Dc Int × List Pt} (fin : ∀ p, C p → p ∈ cs) (w : Wk C h s g) : g.1.l.length ≤ cs.length := by
  rw [← Dc.keys_length]
  exact sub_length w.nk fun p hp => by
    obtain ⟨v, e⟩ := Dc.mem_keys.mp hp
    exact fin p (w.val p v e).1
theorem wVisit_ok {C : Pt → Prop} {here : Pt} {g : Dc Int × List Pt} {e : Pt × Int} (fin : ∀ p, C p → p ∈ cs) (w : Wk C h s g) (hh : (g.1.get here).isSome = true) (ce : C e.1) (he : h e.1 = h here + e.2) :
    Wk C h s (wVisit here g e) ∧ wMeas cs.length (wVisit here g e) ≤ wMeas cs.length g ∧ ((wVisit here g e).1.get e.1).isSome = true ∧ (∀ q, (g.1.get q).isSome = true → ((wVisit here g e).1.get q).isSome = true) ∧ (∀ q, ((wVisit here g e).1.get q).isSome = true → q ∉ (wVisit here g e).2 → (g.1.get q).isSome = true ∧ q ∉ g.2) := by
  unfold wVisit
  by_cases z : (g.1.get e.1).isSome = true
  · rw [if_pos z]
    exact ⟨w, Nat.le_refl _, z, fun _ h => h, fun _ a b => ⟨a, b⟩⟩
  · rw [if_neg z]
    obtain ⟨v, hv⟩ := Option.isSome_iff_exists.mp hh
    have ev : (g.1.get here).getD default = v := by rw [hv]; rfl
    have hv2 := (w.val here v hv).2
    have W' : Wk C h s (g.1.put e.1 ((g.1.get here).getD default + e.2), g.2 ++ [e.1]) := by
      refine ⟨fun p x q => ?_, put_nk w.nk _ _, fun p hp => ?_, get_put_some w.st⟩
      · simp only [Dc.get_put] at q
        by_cases y : p = e.1
        · rw [if_pos y] at q
          have := Option.some.inj q
          rw [y]
          exact ⟨ce, by omega⟩
        · rw [if_neg y] at q
          exact w.val p x q
      · rcases List.mem_append.mp hp with y | y
        · exact get_put_some (w.wk p y)
        · rw [List.mem_singleton.mp y]
          simp only [Dc.get_put, if_true]
          rfl
    refine ⟨W', ?_, by simp only [Dc.get_put, if_true]; rfl, fun q h => get_put_some h, fun q a b => ?_⟩
    · have l1 := wk_len fin W'
      have kk : e.1 ∉ g.1.keys := fun m => z (by
        obtain ⟨x, hx⟩ := Dc.mem_keys.mp m
        rw [hx]; rfl)
      have ll : (g.1.put e.1 ((g.1.get here).getD default + e.2)).l.length = g.1.l.length + 1 := by
        rw [← Dc.keys_length, Dc.put_keys, if_neg kk, List.length_append, Dc.keys_length]
        rfl
      unfold wMeas
      simp only [List.length_append, List.length_singleton] at l1 ⊢
      rw [ll] at l1 ⊢
      omega
    · rw [List.mem_append, not_or] at b
      simp only [Dc.get_put] at a
      rw [if_neg (fun y => b.2 (by rw [y]; exact List.mem_singleton.mpr rfl))] at a
      exact ⟨a, b.1⟩
theorem wVisits_ok {C : Pt → Prop} {here : Pt} (fin : ∀ p, C p → p ∈ cs) : ∀ (L : List (Pt × Int)) (g : Dc Int × List Pt), Wk C h s g → (g.1.get here).isSome = true → (∀ e ∈ L, C e.1 ∧ h e.1 = h here + e.2) →
    Wk C h s (L.foldl (wVisit here) g) ∧ wMeas cs.length (L.foldl (wVisit here) g) ≤ wMeas cs.length g ∧ (∀ e ∈ L, ((L.foldl (wVisit here) g).1.get e.1).isSome = true) ∧ (∀ q, (g.1.get q).isSome = true → ((L.foldl (wVisit here) g).1.get q).isSome = true) ∧ (∀ q, ((L.foldl (wVisit here) g).1.get q).isSome = true → q ∉ (L.foldl (wVisit here) g).2 → (g.1.get q).isSome = true ∧ q ∉ g.2)
  | [], g, w, _, _ => ⟨w, Nat.le_refl _, (fun e he => by cases he), fun _ h => h, fun _ a b => ⟨a, b⟩⟩
  | e :: L, g, w, hh, hL => by
    obtain ⟨ce, he⟩ := hL e List.mem_cons_self
    obtain ⟨a1, a2, a3, a4, a5⟩ := wVisit_ok fin w hh ce he
    obtain ⟨b1, b2, b3, b4, b5⟩ := wVisits_ok (here := here) fin L _ a1 (a4 _ hh) fun e' h' => hL e' (List.mem_cons_of_mem _ h')
    rw [List.foldl_cons]
    refine ⟨b1, Nat.le_trans b2 a2, fun e' h' => ?_, fun q hq => b4 q (a4 q hq), fun q x y => ?_⟩
    · rcases List.mem_cons.mp h' with z | z
      · rw [z]
        exact b4 _ a3
      · exact b3 e' z
    · obtain ⟨u, v⟩ := b5 q x y
      exact a5 q u v
/-- all of what is known but the waiting ones has its neighbours known -/
def WkC (nb : Pt → List (Pt × Int)) (g : Dc Int × List Pt) : Prop := ∀ p, (g.1.get p).isSome = true → p ∉ g.2 → ∀ e ∈ nb p, (g.1.get e.1).isSome = true
theorem wTurn_ok {C : Pt → Prop} {N : Dc Int} {W : List Pt} {here : Pt} (fin : ∀ p, C p → p ∈ cs) (hnb : ∀ p, C p → ∀ e ∈ nb p, C e.1 ∧ h e.1 = h p + e.2) (w : Wk C h s (N, W ++ [here])) (c : WkC nb (N, W ++ [here])) :
    Wk C h s (wTurn nb N W here) ∧ WkC nb (wTurn nb N W here) ∧ wMeas cs.length (wTurn nb N W here) < wMeas cs.length (N, W ++ [here]) := by
  have hh : (N.get here).isSome = true := w.wk here (by simp)
  obtain ⟨v, hv⟩ := Option.isSome_iff_exists.mp hh
  have ch := (w.val here v hv).1
  have w0 : Wk C h s (N, W) := ⟨w.val, w.nk, fun p hp => w.wk p (by simp [hp]), w.st⟩
  obtain ⟨a1, a2, a3, a4, a5⟩ := wVisits_ok (here := here) fin (nb here) (N, W) w0 hh (hnb here ch)
  refine ⟨a1, fun p hp np e he => ?_, ?_⟩
  · obtain ⟨u1, u2⟩ := a5 p hp np
    by_cases z : p = here
    · subst z
      exact a3 e he
    · refine a4 _ (c p u1 ?_ e he)
      show p ∉ W ++ [here]
      simp [u2, z]
  · refine Nat.lt_of_le_of_lt a2 ?_
    unfold wMeas
    simp only [List.length_append, List.length_singleton]
    omega
theorem wStart_ok {C : Pt → Prop} (hs : C s) : Wk C h s (wStart s) ∧ WkC nb (wStart s) := by
  have g : ∀ p v, (wStart s).1.get p = some v → p = s ∧ v = 0 := fun p v e => by
    have e' : (⟨[(s, 0)]⟩ : Dc Int).get p = some v := e
    unfold Dc.get at e'
    by_cases z : s = p
    · simp [z] at e'
      exact ⟨z.symm, e'.symm⟩
    · simp [z] at e'
  have gs : (wStart s).1.get s = some 0 := by
    show (⟨[(s, 0)]⟩ : Dc Int).get s = some 0
    unfold Dc.get
    simp
  refine ⟨⟨fun p v e => ?_, ?_, fun p hp => ?_, by rw [gs]; rfl⟩, fun p hp np => ?_⟩
  · obtain ⟨rfl, rfl⟩ := g p v e
    exact ⟨hs, by omega⟩
  · show ([s] : List Pt).Nodup
    simp
  · have : p = s := List.mem_singleton.mp hp
    rw [this, gs]; rfl
  · obtain ⟨v, hv⟩ := Option.isSome_iff_exists.mp hp
    exact (np (by rw [(g p v hv).1]; exact List.mem_singleton.mpr rfl)).elim
/-- numbers at all corners, and only there -/
structure HtOf (cells : List Pt) (h : Pt → Int) (s : Pt) (N : Dc Int) : Prop where
  val : ∀ p, Cor cells p → N.get p = some (h p - h s)
  cor : ∀ p v, N.get p = some v → Cor cells p
  nk : N.keys.Nodup
structure Nb (cells : List Pt) (h : Pt → Int) (nb : Pt → List (Pt × Int)) : Prop where
  snd : ∀ p, Cor cells p → ∀ e ∈ nb p, Adj cells p e.1 ∧ h e.1 = h p + e.2
  cpl : ∀ p, Cor cells p → ∀ q, Adj cells p q → ∃ e ∈ nb p, e.1 = q
theorem Nb.step (n : Nb cells h nb) : ∀ p, Cor cells p → ∀ e ∈ nb p, Cor cells e.1 ∧ h e.1 = h p + e.2 := fun p hp e he => ⟨(n.snd p hp e he).1.cor, (n.snd p hp e he).2⟩
theorem walked_ht (cn : ConnS fun p => p ∈ cells) (hs : s ∈ cells) (n : Nb cells h nb) {N : Dc Int} (w : Wk (Cor cells) h s (N, [])) (c : WkC nb (N, [])) : HtOf cells h s N := by
  have k : ∀ p, Cor cells p → (N.get p).isSome = true := fun p hp => closed_all (S := fun p => (N.get p).isSome = true) cn hs w.st (fun p q h1 h2 => by
    obtain ⟨v, hv⟩ := Option.isSome_iff_exists.mp h1
    obtain ⟨e, he, rfl⟩ := n.cpl p (w.val p v hv).1 q h2
    exact c p h1 (fun z => nomatch z) e he) hp
  refine ⟨fun p hp => ?_, fun p v e => (w.val p v e).1, w.nk⟩
  obtain ⟨v, hv⟩ := Option.isSome_iff_exists.mp (k p hp)
  rw [hv, (w.val p v hv).2]
theorem wGo_ok (fin : ∀ p, Cor cells p → p ∈ cs) (n : Nb cells h nb) : ∀ (k : Nat) (g : Dc Int × List Pt), wMeas cs.length g ≤ k → Wk (Cor cells) h s g → WkC nb g → ∃ N, wGo nb k g = (N, []) ∧ Wk (Cor cells) h s (N, []) ∧ WkC nb (N, [])
  | 0, (N, W), m, w, c => by
    unfold wMeas at m
    have e : W = [] := List.length_eq_zero_iff.mp (by simp only at m; omega)
    subst e
    exact ⟨N, rfl, w, c⟩
  | k + 1, (N, W), m, w, c => by
    rcases List.eq_nil_or_concat W with e | ⟨W', here, e⟩
    · subst e
      exact ⟨N, wGo_nil nb, w, c⟩
    · rw [List.concat_eq_append] at e
      subst e
      obtain ⟨a1, a2, a3⟩ := wTurn_ok fin n.step w c
      rw [wGo_last]
      exact wGo_ok fin n k _ (by omega) a1 a2
theorem wAll_ok (fin : ∀ p, Cor cells p → p ∈ cs) (hl : cs.length ≤ 180) (cn : ConnS fun p => p ∈ cells) (hs : s ∈ cells) (n : Nb cells h nb) : HtOf cells h s (wAll nb s) := by
  obtain ⟨w, c⟩ := wStart_ok (h := h) (nb := nb) (C := Cor cells) (Cor.self hs)
  have m : wMeas cs.length (wStart s) ≤ 400 := by
    unfold wMeas wStart
    simp only [List.length_singleton]
    omega
  obtain ⟨N, e, w', c'⟩ := wGo_ok fin n 400 _ m w c
  unfold wAll
  rw [e]
  exact walked_ht cn hs n w' c'
end
end Tf

/-! Comprehensions that go over the keys of a dict: it is locked meanwhile. -/
namespace Tf
open PySem PySem.Spec PyProof.Rows L2 Dt
/-- what is not frozen stays -/
def SameZ (F G : Hp) : Prop := ∀ a u, F a = some u → (∀ o w, u ≠ .frz o w) → G a = some u
mutual
theorem Rv.sameZ {F G : Hp} (s : SameZ F G) : ∀ {e : PyData} {u : V}, Rv F u e → Rv G u e
  | _, _, .non => .non
  | _, _, .bl _ => .bl _
  | _, _, .int _ => .int _
  | _, _, .str _ => .str _
  | _, _, .lst a r => .lst (s _ _ a fun _ _ z => nomatch z) (RvL.sameZ s r)
  | _, _, .tup a r => .tup (s _ _ a fun _ _ z => nomatch z) (RvL.sameZ s r)
  | _, _, .emp a => .emp (s _ _ a fun _ _ z => nomatch z)
  | _, _, .dic a l r => .dic (s _ _ a fun _ _ z => nomatch z) l (RvL.sameZ s r)
  | _, _, .obj a l r => .obj (s _ _ a fun _ _ z => nomatch z) l (RvL.sameZ s r)
theorem RvL.sameZ {F G : Hp} (s : SameZ F G) : ∀ {es : List PyData} {us : List V}, RvL F us es → RvL G us es
  | _, _, .nil => .nil
  | _, _, .cons a r => .cons (Rv.sameZ s a) (RvL.sameZ s r)
end
section
variable {T : List (Addr × Str)} {K : PySem.W.Frag} {α ν : Type} [Dt α] [Dt ν] {σ : St} {F G H : Hp} {te ta tb : TE} {x : α} {p : Addr} {kvs : List (List Key × V)} {od : Obj} {D : Dc ν} {i : Nat}
/-- the frame while the dict at p is locked -/
def lockF (F : Hp) (p : Addr) (od : Obj) (u : HO) : Hp := upd F p (.frz od u)
theorem ev_lock (hp : F p = some (.dT kvs)) (h : ∀ od, Ev T te σ (lockF F p od (.dT kvs)) x) : Ev T (tLockE te) σ F x := fun H s t Q q => by
  have hH := (s _ _ hp).1
  refine ⟨p, _, hH, True.intro, fun od => ?_⟩
  refine h od _ (fun a o e => ?_) (tabs_mut t hH nt_dT fun φ z => nomatch z) _ fun v F' H' st r => ?_
  · unfold lockF at e
    by_cases z : a = p
    · subst z
      rw [upd_same] at e ⊢
      cases e
      exact ⟨rfl, fun ps z => nomatch z⟩
    · rw [upd_ne z] at e ⊢
      exact s a o e
  · have lp : lockF F p od (.dT kvs) p = some (.frz od (.dT kvs)) := upd_same
    have fp : F' p = some (.frz od (.dT kvs)) := st.ff _ _ lp
    have hp' := (st.sub _ _ fp).1
    refine ⟨hp', q v (upd F' p (.dT kvs)) _ ⟨fun a u e => ?_, fun a u e => ?_, ⟨fun a u e nt => ?_, fun a e => ?_⟩, fun a e w => ?_, tabs_mut st.tab hp' (fun ps z => nomatch z) fun φ z => nomatch z⟩ (r.sameZ fun a u e nz => ?_)⟩
    · by_cases z : a = p
      · subst z
        rw [hp] at e
        cases e
        exact upd_same
      · rw [upd_ne z]
        exact st.ff a u (by unfold lockF; rw [upd_ne z]; exact e)
    · by_cases z : a = p
      · subst z
        rw [upd_same] at e ⊢
        cases e
        exact ⟨rfl, nt_dT⟩
      · rw [upd_ne z] at e ⊢
        exact st.sub a u e
    · by_cases z : a = p
      · subst z
        rw [hH] at e
        cases e
        exact upd_same
      · rw [upd_ne z]
        exact st.ext.keep a u (by rw [upd_ne z]; exact e) nt
    · by_cases z : a = p
      · subst z
        rw [upd_same] at e
        cases e
      · rw [upd_ne z] at e
        have y := st.ext.live a e
        rw [upd_ne z] at y
        exact y
    · have z : a ≠ p := fun z => by
        rw [z, hp] at e
        cases e
      rw [upd_ne z]
      obtain ⟨o, w1, w2, w3⟩ := w
      exact st.new a (by unfold lockF; rw [upd_ne z]; exact e) ⟨o, by rw [upd_ne z]; exact w1, w2, w3⟩
    · by_cases z : a = p
      · subst z
        rw [fp] at e
        cases e
        exact absurd rfl (nz _ _)
      · rw [upd_ne z]
        exact e
theorem tupIn_lock (hp : F p = some (.dT kvs)) : TupIn F (lockF F p od (.dT kvs)) := fun a us e => by
  have z : a ≠ p := fun z => by
    rw [z, hp] at e
    cases e
  unfold lockF
  rw [upd_ne z]
  exact e
/-- what the slot of a locked dict tells -/
structure Lk (F : Hp) (σ : St) (i : Nat) (p : Addr) (od : Obj) (kvs : List (List Key × V)) (D : Dc ν) : Prop where
  sl : σ[i]? = some (some (.ref p))
  at_ : F p = some (.frz od (.dT kvs))
  rv : RvK F kvs D.l
theorem Lk.mono (s : Same F G) (h : Lk F σ i p od kvs D) : Lk G σ i p od kvs D := ⟨h.sl, s _ _ h.at_, h.rv.mono s⟩
theorem ev_zget {k : Pt} {y : ν} (h : Lk F σ i p od kvs D) (hb : Ev T tb σ F k) (hk : D.get k = some y) : Ev T (tIxU K (tVar i) tb) σ F y := fun H s t Q q =>
  .inr ⟨_, h.sl, hb H s t _ fun w F2 H2 st2 r2 => by
    have hm := h.rv.mono st2.ff
    have z := hm.get k
    rw [show (⟨D.l⟩ : Dc ν).get k = some y from hk] at z
    obtain ⟨u, z1, z2⟩ := z
    obtain ⟨b, rfl, hb⟩ := rv_key r2
    exact ⟨p, u, rfl, .inr ⟨kvs, kk k, b, .inr ⟨od, (st2.sub _ _ (st2.ff _ _ h.at_)).1⟩, rfl, (st2.sub _ _ hb).1, z1.symm⟩, q u F2 H2 st2 z2⟩⟩
theorem RvK.at {l : List (Pt × ν)} (h : RvK F kvs l) {j : Nat} {k : List Key} {v : V} (e : kvs[j]? = some (k, v)) : ∃ q y, l[j]? = some (q, y) ∧ k = kk q := by
  induction h generalizing j with
  | nil => simp at e
  | @cons q u y kvs l one more ih =>
    cases j with
    | zero =>
      simp only [List.getElem?_cons_zero, Option.some.injEq, Prod.mk.injEq] at e
      exact ⟨q, y, rfl, e.1.symm⟩
    | succ j =>
      simp only [List.getElem?_cons_succ] at e ⊢
      exact ih e
/-- over the keys of a locked dict -/
theorem ei_keysZ (h : Lk F σ i p od kvs D) : EvI T (iKeys (tVar i)) σ F (D.keys.map d) := fun H s t R q =>
  ⟨_, h.sl, p, od, rfl, .inr ⟨kvs, (s _ _ h.at_).1, q _ F H (.refl s t) ⟨fun H1 s1 => ⟨(s1 _ _ h.at_).1, by
    rw [List.length_map, Dc.keys_length]
    exact Nat.le_of_eq h.rv.length⟩, fun j H1 s1 hj => ⟨(s1 _ _ h.at_).1, by
    rw [List.length_map, Dc.keys_length] at hj
    rw [h.rv.length]
    exact hj⟩, fun j H1 v H2 s1 t1 hj y => by
    obtain ⟨rfl, k, w, b, h1, rfl, h2⟩ := y
    obtain ⟨q0, y0, g1, rfl⟩ := h.rv.at h1
    refine ⟨d q0, fun a => if a = b then some (.tup ((kk q0).map kV)) else F a, ?_, ⟨fun a u e => ?_, fun a u e => ?_, Ext.refl _, fun a e w => ?_, t1⟩, ?_⟩
    · rw [List.getElem?_map]
      unfold Dc.keys
      rw [List.getElem?_map, g1]
      rfl
    · by_cases z : a = b
      · have := (s1 a u e).1
        rw [z, h2] at this
        show (if a = b then _ else _) = _
        rw [if_pos z]
        exact this
      · show (if a = b then _ else _) = _
        rw [if_neg z]
        exact e
    · by_cases z : a = b
      · have e' : (if a = b then some (HO.tup ((kk q0).map kV)) else F a) = some u := e
        rw [if_pos z] at e'
        cases e'
        rw [z]
        exact ⟨h2, nt_tup⟩
      · have e' : (if a = b then some (HO.tup ((kk q0).map kV)) else F a) = some u := e
        rw [if_neg z] at e'
        exact s1 a u e'
    · have z : a ≠ b := fun z => by
        obtain ⟨o, w1, w2, _⟩ := w
        rw [z, h2] at w1
        cases w1
        exact w2 _ rfl
      show (if a = b then _ else _) = _
      rw [if_neg z]
      exact e
    · exact Rv.tup (us := [.int q0.1, .int q0.2]) (es := [.int q0.1, .int q0.2]) (if_pos rfl) (.cons (.int _) (.cons (.int _) .nil))⟩⟩⟩
/-- a comprehension over a dict in slot i -/
theorem ev_overD [Imm ν] (hs : ∃ v, σ[i]? = some (some v) ∧ Rv F v (d D)) (h : ∀ F2 p od kvs, TupIn F F2 → Lk F2 σ i p od kvs D → Ev T te σ F2 x) : Ev T (tLockE te) σ F x := by
  obtain ⟨v, h1, r⟩ := hs
  obtain ⟨p, kvs, rfl, a, b⟩ := rv_dc r
  exact ev_lock a fun od => h _ p od kvs (tupIn_lock a) ⟨h1, upd_same, rvK_imm (tupIn_lock a) b⟩
end
/-- what of the slots is known while a dict is locked: what no lock reaches -/
def keepS (Δ : List Sl) : List Sl := Δ.map fun s => match s with
  | .sh e => if imm e = true then .sh e else .no
  | _ => .no
section
variable {T : List (Addr × Str)} {α β ν : Type} {σ : St} {F G : Hp} {Δ : List Sl} {te : TE} {tt : TT} {g : TG} {i : Nat} {p : Addr}
theorem Sh.keepS (h : Sh F σ Δ) (ti : TupIn F G) (hi : σ[i]? = some (some (.ref p))) : Sh G σ ((keepS Δ).set i (.raw (.ref p))) := by
  have base : ∀ (j : Nat) (s : Sl), (Tf.keepS Δ)[j]? = some s → s = .no ∨ ∃ e, s = .sh e ∧ imm e = true ∧ Δ[j]? = some (.sh e) := fun j s q => by
    unfold Tf.keepS at q
    rw [List.getElem?_map] at q
    cases hd : Δ[j]? with
    | none => rw [hd] at q; cases q
    | some r =>
      rw [hd] at q
      simp only [Option.map_some, Option.some.injEq] at q
      cases r with
      | sh e =>
        by_cases z : imm e = true
        · simp only [z, if_true] at q
          exact .inr ⟨e, q.symm, z, rfl⟩
        · simp only [z] at q
          exact .inl q.symm
      | _ => exact .inl q.symm
  refine ⟨by rw [h.len]; simp [Tf.keepS], fun j e q => ?_, fun j v q => ?_, fun j K ns q => ?_⟩
  · rcases get_set q with ⟨_, _, z⟩ | ⟨_, z⟩
    · cases z
    · rcases base j _ z with y | ⟨e', y, y2, y3⟩
      · cases y
      · cases y
        obtain ⟨v, h1, h2⟩ := h.sh j _ y3
        exact ⟨v, h1, h2.imm ti y2⟩
  · rcases get_set q with ⟨rfl, _, z⟩ | ⟨_, z⟩
    · cases z
      exact hi
    · rcases base j _ z with y | ⟨e', y, y2, y3⟩ <;> cases y
  · rcases get_set q with ⟨_, _, z⟩ | ⟨_, z⟩
    · cases z
    · rcases base j _ z with y | ⟨e', y, y2, y3⟩ <;> cases y
/-- [f(x) for x in d if p(x)], d in slot i -/
theorem ex_overD {_ : Dt ν} [Imm ν] {_ : Dt β} {D : Dc ν} {f : Pt → β} {pr : Pt → Bool} {vs : List Nat} {bs : Pt → List (Nat × PyData)} (h : Δ[i]? = some (.sh (d D))) (hg : ∀ x, Bd g (d x) (bs x)) (hv : ∀ x, ((bs x).map (·.1)).all (fun i => vs.contains i) = true)
    (body : ∀ (F1 : Hp) (q : Addr) (od : Obj) (kvs : List (List Key × V)) (σ' : St) (x : Pt), x ∈ D.keys → Sh F1 σ' (setsG (wipeS ((keepS Δ).set i (.raw (.ref q))) vs) (bs x)) → F1 q = some (.frz od (.dT kvs)) → RvK F1 kvs D.l → EvT T tt σ' F1 (pr x) ∧ (pr x = true → Ev T te σ' F1 (f x)))
    (hz : D.keys.length ≤ 100000) : Ex T Δ (tLockE (tLc (iKeys (tVar i)) g tt te vs)) (d ((D.keys.filter pr).map f)) := .of fun σ F s => by
  obtain ⟨v, h1, r⟩ := s.sh i _ h
  refine ev_overD (D := D) ⟨v, h1, r⟩ fun F2 p od kvs ti lk => ?_
  have hs := s.keepS ti lk.sl
  refine ev_lc (ei_keysZ lk) hz fun F1 x v l hx rx => ?_
  obtain ⟨σ', g1, g2, g3⟩ := (hg x).evG (vs := vs) (σ := wipe σ vs) rx (hv x) ((hs.mono l).wipe vs)
  obtain ⟨b1, b2⟩ := body F1 p od kvs σ' x hx g3 (l _ _ lk.at_) (lk.rv.mono l)
  exact ⟨σ', g1, by rw [g2, wipe_wipe], b1, b2⟩
end
theorem r_lock {T : List (Addr × Str)} {K : PySem.W.Frag} {E : XK} {Γ : List Sl} {te : TE} {i : Nat} {R : Out → Prop} (h : Run T K E Γ (tAsg (tLockE te) (gName i)) R) : Run T K E Γ (tLock (tAsg te (gName i))) R := h
end Tf

/-! sorted of pieces, by a def that gives the key of a piece's first cell by another def. -/
namespace Tf
open PySem PySem.Spec PyProof.Rows L2 Dt
/-- the key of a pair of pairs in H: that of its first one -/
def keyAt2 (H : Hp) (u : V) : Int × Int := match u with
  | .ref t => (match H t with
    | some (.tup [x, _]) => keyAt H x
    | _ => (0, 0))
  | _ => (0, 0)
def tSortQ (T : List (Addr × Str)) (K : PySem.W.Frag) (ta : TA) : TE := fun σ H Q => ta σ H fun vs H1 => LamX.Tabs T H1 ∧ ∃ p us, vs = [.ref p] ∧ SqL K H1 p us ∧ (∀ u ∈ us, ∃ t c i j w, u = .ref t ∧ H1 t = some (.tup [.ref c, w]) ∧ H1 c = some (.tup [.int i, .int j])) ∧
  ∀ q, H1 q = none → Q (.ref q) (upd H1 q (.lst (us.mergeSort (leK (keyAt2 H1)))))
/-- a def whose body calls the key's def with the first of a pair -/
theorem def_key2 {prog : Program} {w : World} {A : Around} {s : Shared} {K : PySem.W.Frag} {mg : Str → Option Value} {base : Heap} {f g t c : Addr} {name qual x name2 qual2 x2 kn : Str} {params params2 : Arguments} {scope scope2 : Scope} {fd fd2 : FuncData} {v2 : Value} {a b : Int} {ta tb : Tok} {p1 p2 p3 p4 p5 p6 q1 q2 q3 q4 q5 q6 q7 q8 : Pos} {y y2 k0 : Nat} {z : Nat}
    (F : FunD K name qual params [.Return (some (.Call (.Name kn p1) [.Subscript (.Name x p2) (.Constant (.int 0) y p3) p4] [] p5)) p6] scope [] [] f fd) (bi : Binds K fd [x] []) (S : FnScope [x] [x] scope)
    (F2 : FunD K name2 qual2 params2 [.Return (some (.Tuple [.Subscript (.Name x2 q1) (.Constant (.int 1) y2 q2) q3, .Subscript (.Name x2 q4) (.Constant (.int 0) z q5) q6] k0 q7)) q8] scope2 [] [] g fd2) (bi2 : Binds K fd2 [x2] []) (S2 : FnScope [x2] [x2] scope2)
    (KI : K.In base) (G : base.Ns mainGlobals mg) (kb : ∀ b o, base.get? b = some o → s.heap.get? b = some o) (gk : mg kn = some (.ref g)) (kp : PySem.W.keepIn K (.ref g) = true) (lim : s.heap.NoLimit) (room : A.depth + 1 < recursionLimit)
    (hx : scope.names.lookup x = some .local) (hx2 : scope2.names.lookup x2 = some .local) (hd : (x == ("__debug__" : Str)) = false) (hd2 : (x2 == ("__debug__" : Str)) = false) (hdk : (kn == ("__debug__" : Str)) = false)
    (hgk : scope.names.lookup kn = some .globalImplicit)
    (ht : IsTup s.heap t #[.ref c, v2]) (hc : IsTup s.heap c #[.int a ta, .int b tb]) :
    wpAny (model prog w) A (call (.ref f) [.ref t]) (PySem.W.KeyPure (.tuple [.int b, .int a]) s) (fun _ _ => False) s := by
  obtain ⟨oc, od, dV, kV, doc, pm, an, cdv, ct, osl, rfl, lk, hcd, _, _⟩ := F.ex
  have KS : K.In s.heap := KI.keeps kb
  refine wpAny_call (Att.call_fn (binds := [(x, .ref t)]) KS lim lk hcd (by omega) (bi s [.ref t] KS rfl) (by simp [hx]) (fun s1 IC => ?_) S.co S.gen S.kind)
  obtain ⟨h1, tk, rfl⟩ := IC.toInCall.same
  have keep : ∀ b o, s.heap.get? b = some o → h1.get? b = some o := IC.toInCall.keep
  have hn := IC.toInCall.ns
  have up : ∀ {l : Addr} {xs : Array Value}, IsTup s.heap l xs → IsTup h1 l xs := fun {l xs} h => by
    obtain ⟨o, h2, h3⟩ := h
    exact ⟨o, keep _ _ h2, h3⟩
  have hm : bindL (envOfC qual scope s.heap.objs.size f cdv).kindOf [(x, Value.ref t)] (fun _ => none) x = some (.ref t) := by
    simp only [bindL]
    rw [if_pos (show (envOfC qual scope s.heap.objs.size f cdv).kindOf x = some .local from hx)]
    exact if_pos rfl
  refine wpAny_execs_cons (wpAny_Return_some (wpAny_Call_Name_kw (Calls.Name_function_global S.kind hgk (Calls.loadGlobal_global (G.keeps fun b o e => keep _ _ (kb b o e)) gk ?_) hdk)))
  refine PySem.W.callWith_K (h₀ := base) KI kp (Calls.spliced_cons (raw_item (k := 0) S.kind hx hd hn hm (up ht) rfl (by show 2 < 1000; decide) fun tk => Calls.spliced_nil ⟨KS.keeps keep, ?_⟩)) rfl rfl
  exact wpAny_mono (def_key (i := 1) (j := 0) (s := { s with heap := h1, toks := tk }) F2 bi2 S2 (KS.keeps keep) (lim.keeps keep) room hx2 hd2 (up hc) rfl rfl (by show 2 < 1000; decide)) (fun v s' ⟨h', tk', e, k, r⟩ => ⟨h', tk', by rw [e], fun b o q => k b o (keep b o q), r⟩) fun _ _ z => z.elim
theorem pe_sortDef2 {X : Cx} {T : List (Addr × Str)} {a : Expr} {ta : TA} {x kn qual kn2 qual2 x2 : Str} {params params2 : Arguments} {scope scope2 : Scope} {fk g : Addr} {fd fd2 : FuncData} {p pos lp kp p1 p2 p3 p4 p5 p6 q1 q2 q3 q4 q5 q6 q7 q8 : Pos} {y y2 k0 k : Nat} {z : Nat} (K : PySem.W.Frag) (hm : X.mg "sorted" = none) (ha : PA X [a] ta) (hr : Room k X.A)
    (F : FunD X.K kn qual params [.Return (some (.Call (.Name kn2 p1) [.Subscript (.Name x p2) (.Constant (.int 0) y p3) p4] [] p5)) p6] scope [] [] fk fd) (bi : Binds X.K fd [x] []) (S : FnScope [x] [x] scope) (gk : X.mg kn = some (.ref fk))
    (F2 : FunD X.K kn2 qual2 params2 [.Return (some (.Tuple [.Subscript (.Name x2 q1) (.Constant (.int 1) y2 q2) q3, .Subscript (.Name x2 q4) (.Constant (.int 0) z q5) q6] k0 q7)) q8] scope2 [] [] g fd2) (bi2 : Binds X.K fd2 [x2] []) (S2 : FnScope [x2] [x2] scope2) (gk2 : X.mg kn2 = some (.ref g)) (kp2 : PySem.W.keepIn X.K (.ref g) = true)
    (hx : scope.names.lookup x = some .local) (hx2 : scope2.names.lookup x2 = some .local) (hgk : scope.names.lookup kn2 = some .globalImplicit) (hd : (x == ("__debug__" : Str)) = false := by decide) (hd2 : (x2 == ("__debug__" : Str)) = false := by decide) (hdk : (kn == ("__debug__" : Str)) = false := by decide) (hdk2 : (kn2 == ("__debug__" : Str)) = false := by decide)
    (hg : Gl X "sorted" := by rfl) (hgn : Gl X kn := by rfl) (he : starEach [a] X.env = [(false, eval a X.env)] := by rfl) (hK : X.K = K := by rfl) :
    PE X (.Call (.Name "sorted" p) [a] [⟨some "key", .Name kn lp, kp⟩] pos) (tSortQ T K ta) := by
  subst hK
  refine ⟨fun pins s σ H Q I h => ?_⟩
  have hv : bootBuiltins ("sorted" : Str) = some (.builtin "sorted") := by decide +kernel
  refine wpAny_Call_Name_kw (ld_blt I hg hm hv ?_ (by decide) (by decide))
  have hb : backTo pos (starEach [a] X.env) = (false, eval a X.env) :: backTo pos (starEach [] X.env) := by
    rw [he]
    rfl
  have hb1 : (backTo pos (starEach [a] X.env)).any (·.1) = false := by
    rw [hb]
    rfl
  refine PyProof.Rows.callWith_kw (e := a) (rest := []) ?_ hb hb1 (by rfl) (by rfl)
  refine thn (ha.run pos pins s σ H _ I h) fun us s1 hq => ?_
  obtain ⟨vs, H1, I1, rv, t1, l, ys, rfl, hs, hp, q⟩ := hq
  obtain rfl := Vals.ref1 rv
  show wpAny _ _ (evalAll [do let v ← eval (.Name kn lp) X.env; standAt pos; pure v]) _ _ s1
  refine wpAny_evalAll_cons (wpAny_bind (ld_glob I1 hgn gk (wpAny_bind (wpAny_standAt (wpAny_pure (wpAny_evalAll_nil ?_)))) hdk))
  show wpAny _ _ (call (.builtin "sorted") [.ref l] [(Str.ofString "key", .ref fk)]) _ _ s1
  refine sort_run (key := keyAt2 H1) I1 hs (by have := hr.un; omega) (fun u hu2 v ru h tk kp => ?_) fun p hp2 => q p hp2
  obtain ⟨t, c, i, j, w, rfl, ht, hc⟩ := hp u hu2
  cases ru
  have tup : ∀ {b : Addr} {xs : List V}, H1 b = some (.tup xs) → ∃ its, Vals xs its ∧ IsTup h b its.toArray := fun {b xs} e => by
    obtain ⟨_, its, ri, o, o1, o2, n, o3⟩ := (show ObjOk X.prog X.w H1 s1.heap b (.tup xs) from I1.hok b _ e)
    exact ⟨its, ri, o, kp _ _ o1, o2, n, o3⟩
  obtain ⟨its, r1, t2⟩ := tup ht
  obtain ⟨its2, r2, t3⟩ := tup hc
  obtain ⟨ti, tj, rfl⟩ := Vals.int2 r2
  obtain ⟨u1, u2, rfl, r3, r4⟩ := vals2 r1
  cases r3
  have ke : keyAt2 H1 (.ref t) = (j, i) := by simp only [keyAt2, keyAt, ht, hc]
  rw [ke]
  exact def_key2 (s := { s1 with heap := h, toks := tk }) F bi S F2 bi2 S2 I1.mod.kin I1.mod.glob (fun b o e => kp _ _ (I1.bk b o e)) gk2 kp2 (I1.nolimit.keeps kp) (by have := hr.dp; show X.A.depth + 1 < recursionLimit; omega) hx hx2 hd hd2 hdk2 hgk t2 t3
abbrev Pc := Pt × Pt
def yxF (a b : Pc) : Bool := yx a.1 b.1
def pcOf (H : Hp) (u : V) : Pc := match u with
  | .ref t => (match H t with
    | some (.tup [x, y]) => (ptOf H x, ptOf H y)
    | _ => ((0, 0), (0, 0)))
  | _ => ((0, 0), (0, 0))
theorem pcOf_key (H : Hp) (u : V) : (pcOf H u).1 = ((keyAt2 H u).2, (keyAt2 H u).1) := by
  unfold pcOf keyAt2
  split
  · rename_i t
    split
    · rename_i x y h
      rfl
    · rfl
  · rfl
theorem leK2 (H : Hp) (u w : V) : leK (keyAt2 H) u w = yxF (pcOf H u) (pcOf H w) := by
  unfold yxF yx
  rw [pcOf_key, pcOf_key]
  rfl
theorem rv_pc {F H : Hp} (s : Sub F H) {u : V} {p : Pc} (h : Rv F u (d p)) : pcOf H u = p ∧ ∃ t c i j w, u = .ref t ∧ H t = some (.tup [.ref c, w]) ∧ H c = some (.tup [.int i, .int j]) := by
  obtain ⟨t, u1, u2, rfl, a, b1, b2⟩ := rv_pair h
  obtain ⟨c1, v1, v2, rfl, a1, g1, g2⟩ := rv_pair b1
  obtain ⟨c2, v3, v4, rfl, a2, g3, g4⟩ := rv_pair b2
  cases rv_int g1
  cases rv_int g2
  cases rv_int g3
  cases rv_int g4
  have e0 := (s _ _ a).1
  have e1 := (s _ _ a1).1
  have e2 := (s _ _ a2).1
  refine ⟨?_, t, c1, _, _, _, rfl, e0, e1⟩
  simp only [pcOf, e0, ptOf, keyAt, e1, e2]
theorem sorted_pcs {F H : Hp} (s : Sub F H) {us : List V} {ps : List Pc} (r : RvL F us (ps.map d)) : RvL F (us.mergeSort (leK (keyAt2 H))) ((ps.mergeSort yxF).map d) := by
  have each : ∀ {us : List V} {ps : List Pc}, RvL F us (ps.map d) → us.map (pcOf H) = ps ∧ ∀ u ∈ us, Rv F u (d (pcOf H u)) := by
    intro us ps
    induction ps generalizing us with
    | nil =>
      intro r
      cases r
      exact ⟨rfl, fun u z => nomatch z⟩
    | cons p ps ih =>
      intro r
      cases r with
      | cons a r =>
        obtain ⟨h1, h2⟩ := ih r
        have e := (rv_pc s a).1
        refine ⟨by simp only [List.map_cons, h1, e], fun u hu => ?_⟩
        rcases List.mem_cons.mp hu with z | z
        · subst z
          rw [e]
          exact a
        · exact h2 u z
  obtain ⟨h1, h2⟩ := each r
  have e : (us.mergeSort (leK (keyAt2 H))).map (pcOf H) = ps.mergeSort yxF := by
    rw [← h1]
    exact List.map_mergeSort fun a _ b _ => leK2 H a b
  rw [← e]
  have all : ∀ {ws : List V}, (∀ u ∈ ws, Rv F u (d (pcOf H u))) → RvL F ws ((ws.map (pcOf H)).map d) := by
    intro ws
    induction ws with
    | nil => exact fun _ => .nil
    | cons w ws ih => exact fun h => .cons (h w List.mem_cons_self) (ih fun u hu => h u (List.mem_cons_of_mem _ hu))
  exact all fun u hu => h2 u (List.mem_mergeSort.mp hu)
section
variable {T : List (Addr × Str)} {K : PySem.W.Frag} {Δ : List Sl} {te : TE}
theorem exN_sortQ {ps : List Pc} (h : Ex T Δ te (d ps)) : ExN T Δ (tSortQ T K (tCons te tNil)) (d (ps.mergeSort yxF)) := fun σ F s H su t Q q => h σ F s H su t _ fun v F1 H1 st r => by
  obtain ⟨p, us, rfl, a, b⟩ := rv_list r
  refine ⟨st.tab, p, us, rfl, SqL.of (st.sub _ _ a).1, fun u hu => ?_, fun l hl => ?_⟩
  · obtain ⟨i, hi⟩ := List.getElem?_of_mem hu
    obtain ⟨x, _, rx⟩ := b.back hi
    exact (rv_pc st.sub rx).2
  · have s3 := Step.made (o := .lst (us.mergeSort (leK (keyAt2 H1)))) st.sub st.tab hl nt_lst
    exact q _ _ _ (st.trans s3) (.lst upd_same ((sorted_pcs st.sub b).mono s3.ff)) fun p e => by
      cases e
      exact st.ext.live _ hl
end
end Tf

/-! The laws' own tellings of a laying. -/
namespace Tf
open PySem PySem.Spec PyProof.Rows L2 Dt
def swapP (p : Pt) : Pt := (p.2, p.1)
abbrev sp__law_order (K : PySem.W.Frag) : Sp := Pu (tabs K) (R1 swapP fun _ => True)
def pickP (D : Dc Pt) : List Pc := (D.keys.filter fun c => HT.lexLt [c.2, c.1] [(oth D c).2, (oth D c).1]).map fun c => (c, oth D c)
def toldP (D : Dc Pt) : List Pc := (pickP D).mergeSort yxF
abbrev sp__law_told (K : PySem.W.Frag) : Sp := PuN (tabs K) (R1 toldP fun D => ∃ cells, Lay cells D)
theorem Lay.get {cells : List Pt} {D : Dc Pt} (h : Lay cells D) {k : Pt} (hk : k ∈ D.keys) : D.get k = some (oth D k) := by
  obtain ⟨x, hx⟩ := Dc.mem_keys.mp hk
  rw [oth_of hx, hx]
theorem Lay.keys_cells {cells : List Pt} {D : Dc Pt} (h : Lay cells D) {k : Pt} : k ∈ D.keys ↔ k ∈ cells := by
  rw [Dc.mem_keys]
  constructor
  · rintro ⟨x, hx⟩
    exact h.full.half.mem _ _ hx
  · intro hk
    exact ⟨_, h.full.get hk⟩
theorem pick_len {cells : List Pt} {D : Dc Pt} (h : Lay cells D) : (pickP D).length ≤ 36 := by
  unfold pickP
  rw [List.length_map]
  have l1 := List.length_filter_le (fun c => HT.lexLt [c.2, c.1] [(oth D c).2, (oth D c).1]) D.keys
  have l2 := h.len
  rw [← Dc.keys_length] at l2
  omega
theorem told_len {cells : List Pt} {D : Dc Pt} (h : Lay cells D) : (toldP D).length ≤ 36 := by
  unfold toldP
  rw [List.length_mergeSort]
  exact pick_len h
theorem lex_lt {a b : Pt} : HT.lexLt [a.2, a.1] [b.2, b.1] = ltB a b := by
  unfold ltB
  by_cases h1 : a.2 < b.2
  · have n : ¬ a.2 = b.2 := by omega
    simp [HT.lexLt, h1, n]
  · by_cases h2 : a.2 = b.2
    · by_cases h3 : a.1 < b.1
      · have n : ¬ a.1 = b.1 := by omega
        simp [HT.lexLt, h2, h3, n]
      · by_cases h4 : a.1 = b.1
        · simp [HT.lexLt, h2, h4]
        · simp [HT.lexLt, h2, h3, h4]
    · simp [HT.lexLt, h1, h2]
/-- the laying as the document has it told -/
theorem told_lay {cells : List Pt} {D : Dc Pt} (h : Lay cells D) (so : cells.Pairwise ltYX) : toldP D = layF cells D := by
  have pm : List.Perm (pickP D) (layF cells D) := by
    have e : pickP D = (D.keys.filter fun c => ltB c (oth D c)).map fun c => (c, oth D c) := by
      unfold pickP
      congr 1
      refine List.filter_congr fun c _ => lex_lt
    rw [e]
    have pk : List.Perm D.keys cells := (List.perm_ext_iff_of_nodup h.nk (nodup_lt so)).mpr fun k => h.keys_cells
    exact (pk.filter _).map _
  have pw : (layF cells D).Pairwise fun a b => ltYX a.1 b.1 := by
    unfold layF
    rw [List.pairwise_map]
    exact so.filter _
  have trans : ∀ a b c : Pc, yxF a b = true → yxF b c = true → yxF a c = true := fun a b c h k => by
    unfold yxF yx at *
    simp only [decide_eq_true_eq] at *
    omega
  have total : ∀ a b : Pc, (yxF a b || yxF b a) = true := fun a b => by
    unfold yxF yx
    simp only [Bool.or_eq_true, decide_eq_true_eq]
    omega
  have s1 := List.pairwise_mergeSort trans total (pickP D)
  have pm2 : List.Perm (toldP D) (layF cells D) := (List.mergeSort_perm _ _).trans pm
  have fst : ∀ p ∈ layF cells D, p.2 = oth D p.1 := fun p hp => by
    obtain ⟨c, _, rfl⟩ := List.mem_map.mp hp
    rfl
  refine List.Perm.eq_of_pairwise (le := fun a b => yxF a b = true) (fun a b ha hb h1 h2 => ?_) s1 (pw.imp fun {a b} h => ?_) pm2
  · have e : a.1 = b.1 := by
      unfold yxF yx at h1 h2
      simp only [decide_eq_true_eq] at h1 h2
      exact Prod.ext (by omega) (by omega)
    have e2 : a.2 = b.2 := by rw [fst a (pm2.mem_iff.mp ha), fst b hb, e]
    exact Prod.ext e e2
  · unfold ltYX at h
    unfold yxF yx
    simp only [decide_eq_true_eq]
    omega
/-! ### handed in another order -/
def handStep (n : Int) (a : List Pc) (e : Int × Pc) : List Pc := a.take (mixed n e.1 / 14 % ((a.length : Int) + 1)).toNat ++ [if mixed n e.1 / 7 % 2 = 0 then e.2 else (e.2.2, e.2.1)] ++ a.drop (mixed n e.1 / 14 % ((a.length : Int) + 1)).toNat
def handedP (D : Dc Pt) (n : Int) : List Pc := (enumI (toldP D)).foldl (handStep n) []
abbrev sp__law_handed (K : PySem.W.Frag) : Sp := PuN (tabs K) (R2' handedP fun D _ => ∃ cells, Lay cells D)
end Tf

/-! Dict displays; a second dict while one is locked; the laws' own going along the sides. -/
namespace Tf
open PySem PySem.Spec PyProof.Rows L2 Dt
/-! ### {(a, b): x, ..} -/
inductive Disp {ν : Type} [Dt ν] (T : List (Addr × Str)) (Δ : List Sl) : List (TE × TE) → List (Pt × ν) → Prop
  | nil : Disp T Δ [] []
  | cons {tk tv : TE} {k : Pt} {x : ν} {trs : List (TE × TE)} {l : List (Pt × ν)} (hk : Ex T Δ tk (d k)) (hv : Ex T Δ tv (d x)) (r : Disp T Δ trs l) : Disp T Δ ((tk, tv) :: trs) ((k, x) :: l)
inductive PV {ν : Type} [Dt ν] (F : Hp) : List (V × V) → List (Pt × ν) → Prop
  | nil : PV F [] []
  | cons {u v : V} {k : Pt} {x : ν} {ps : List (V × V)} {l : List (Pt × ν)} (hk : Rv F u (d k)) (hv : Rv F v (d x)) (r : PV F ps l) : PV F ((u, v) :: ps) ((k, x) :: l)
section
variable {T : List (Addr × Str)} {K : PySem.W.Frag} {α β ν μ : Type} [Dt ν] [Dt μ] {σ : St} {F G F0 H0 H : Hp} {Δ Γ : List Sl} {te ta tb : TE} {tt : TT} {g : TG} {i j : Nat} {p : Addr}
theorem PV.mono {ps : List (V × V)} {l : List (Pt × ν)} (s : Same F G) (h : PV F ps l) : PV G ps l := by
  induction h with
  | nil => exact .nil
  | cons a b _ ih => exact .cons (a.mono s) (b.mono s) ih
theorem disp_pairs {trs : List (TE × TE)} {l : List (Pt × ν)} (h : Disp T Δ trs l) : ∀ (F : Hp), Sh F σ Δ → ∀ H, Sub F H → LamX.Tabs T H → ∀ Q : List (V × V) → Hp → Prop, (∀ ps F' H', Step T F F' H H' → PV F' ps l → Q ps H') → tPairs trs σ H Q := by
  induction h with
  | nil => exact fun F s H su t Q q => q [] F H (.refl su t) .nil
  | cons hk hv r ih =>
    intro F s H su t Q q
    refine hk σ F s H su t _ fun u F1 H1 s1 r1 => hv σ F1 (s.mono s1.ff) H1 s1.sub s1.tab _ fun v F2 H2 s2 r2 => ?_
    refine ih F2 ((s.mono s1.ff).mono s2.ff) H2 s2.sub s2.tab _ fun ps F3 H3 s3 r3 => q _ F3 H3 ((s1.trans s2).trans s3) (.cons (r1.mono (s2.ff.trans s3.ff)) (r2.mono s3.ff) r3)
theorem disp_puts {ps : List (V × V)} {l : List (Pt × ν)} (h : PV F ps l) : ∀ (D : Dc ν) (H : Hp) (Q : Hp → Prop), Step T F0 F H0 H → H0 p = none → OwnD F H p D → D.l.length + l.length ≤ 1000 →
    (∀ H', Step T F0 F H0 H' → OwnD F H' p (l.foldl (fun D e => D.put e.1 e.2) D) → Q H') → putsT p ps H Q := by
  induction h with
  | nil => exact fun D H Q st _ o _ q => q H st o
  | @cons u v k x ps l hk hv r ih =>
    intro D H Q st n o hl q
    simp only [List.length_cons] at hl
    obtain ⟨H1, put, o1, u, hu, u', rfl⟩ := o.put st.sub hk hv (by omega)
    have pl := Dc.put_len D k x
    exact ⟨_, put, ih (D.put k x) _ Q (st.mut o.1 n hu nt_dT fun φ z => nomatch z) n o1 (by omega) q⟩
theorem exN_disp {trs : List (TE × TE)} {l : List (Pt × ν)} (h : Disp T Δ trs l) (hl : l.length ≤ 100) : ExN T Δ (tDispT trs) (d (l.foldl (fun D e => D.put e.1 e.2) (⟨[]⟩ : Dc ν))) := fun σ F s H su t Q q => fun p hp => by
  obtain ⟨sn, on⟩ := owned_new (ν := ν) su t hp
  refine disp_pairs h F s _ sn.sub sn.tab _ fun ps F1 H1 s1 r1 => ?_
  refine disp_puts (T := T) (F0 := F) (H0 := H) r1 _ H1 _ (sn.trans s1) hp (on.step s1) (by show 0 + l.length ≤ 1000; omega) fun H2 st o => ?_
  obtain ⟨F', ff, st', rv⟩ := o.out st hp
  exact q _ F' H2 st' rv fun a e => by
    cases e
    exact hp
/-! ### another dict while one is locked -/
/-- a dict that is read while one is locked: the locked one, or another -/
def Zr (F : Hp) (v : V) (D : Dc μ) : Prop := (∃ p od kvs, v = .ref p ∧ F p = some (.frz od (.dT kvs)) ∧ RvK F kvs D.l) ∨ Rv F v (d D)
theorem Zr.mono {v : V} {D : Dc μ} (s : Same F G) : Zr F v D → Zr G v D
  | .inl ⟨p, od, kvs, a, b, c⟩ => .inl ⟨p, od, kvs, a, s _ _ b, c.mono s⟩
  | .inr h => .inr (h.mono s)
theorem ev_zr {v : V} {D : Dc μ} {k : Pt} {y : μ} (hv : σ[j]? = some (some v)) (h : Zr F v D) (hb : Ev T tb σ F k) (hk : D.get k = some y) : Ev T (tIxU K (tVar j) tb) σ F y := by
  rcases h with ⟨p, od, kvs, rfl, b, c⟩ | h
  · exact ev_zget ⟨hv, b, c⟩ hb hk
  · exact ev_dGet (ev_var hv h) hb hk
theorem Sh.raw_at {v : V} (h : Sh F σ Δ) (hv : σ[j]? = some (some v)) : Sh F σ (Δ.set j (.raw v)) := by
  refine ⟨by simp [h.len], fun i e q => ?_, fun i w q => ?_, fun i K' ns q => ?_⟩
  · rcases get_set q with ⟨_, _, z⟩ | ⟨_, z⟩
    · cases z
    · exact h.sh i e z
  · rcases get_set q with ⟨rfl, _, z⟩ | ⟨_, z⟩
    · cases z
      exact hv
    · exact h.raw i w z
  · rcases get_set q with ⟨_, _, z⟩ | ⟨_, z⟩
    · cases z
    · exact h.sc i K' ns z
/-- [f(x) for x in d if p(x)], d in slot i, another dict in slot j -/
theorem ex_overD2 {_ : Dt β} [Imm ν] [Imm μ] {D : Dc ν} {D2 : Dc μ} {f : Pt → β} {pr : Pt → Bool} {vs : List Nat} {bs : Pt → List (Nat × PyData)} (h : Δ[i]? = some (.sh (d D))) (h2 : Δ[j]? = some (.sh (d D2))) (hg : ∀ x, Bd g (d x) (bs x)) (hv : ∀ x, ((bs x).map (·.1)).all (fun i => vs.contains i) = true)
    (body : ∀ (F1 : Hp) (q : Addr) (od : Obj) (kvs : List (List Key × V)) (v2 : V) (σ' : St) (x : Pt), x ∈ D.keys → Sh F1 σ' (setsG (wipeS (((keepS Δ).set i (.raw (.ref q))).set j (.raw v2)) vs) (bs x)) → F1 q = some (.frz od (.dT kvs)) → RvK F1 kvs D.l → Zr F1 v2 D2 → EvT T tt σ' F1 (pr x) ∧ (pr x = true → Ev T te σ' F1 (f x)))
    (hz : D.keys.length ≤ 100000) : Ex T Δ (tLockE (tLc (iKeys (tVar i)) g tt te vs)) (d ((D.keys.filter pr).map f)) := .of fun σ F s => by
  obtain ⟨v, h1, r⟩ := s.sh i _ h
  obtain ⟨v2, h3, r2⟩ := s.sh j _ h2
  obtain ⟨p, kvs, rfl, a, b⟩ := rv_dc r
  obtain ⟨p2, kvs2, rfl, a2, b2⟩ := rv_dc r2
  refine ev_lock a fun od => ?_
  have ti := tupIn_lock (od := od) a
  have lp : lockF F p od (.dT kvs) p = some (.frz od (.dT kvs)) := upd_same
  have lk : Lk (lockF F p od (.dT kvs)) σ i p od kvs D := ⟨h1, lp, rvK_imm ti b⟩
  have zr : Zr (lockF F p od (.dT kvs)) (.ref p2) D2 := by
    by_cases e : p2 = p
    · subst e
      rw [a] at a2
      cases a2
      exact .inl ⟨_, od, _, rfl, lp, rvK_imm ti b2⟩
    · exact .inr ((rvK_imm ti b2).rv (by unfold lockF; rw [upd_ne e]; exact a2))
  have hs := (s.keepS ti lk.sl).raw_at h3
  refine ev_lc (ei_keysZ lk) hz fun F1 x v l hx rx => ?_
  obtain ⟨σ', g1, g2, g3⟩ := (hg x).evG (vs := vs) (σ := wipe σ vs) rx (hv x) ((hs.mono l).wipe vs)
  obtain ⟨c1, c2⟩ := body F1 p od kvs _ σ' x hx g3 (l _ _ lk.at_) (lk.rv.mono l) (zr.mono l)
  exact ⟨σ', g1, by rw [g2, wipe_wipe], c1, c2⟩
end
/-! ### the law's own step along a side -/
def lawWays : List Pt := [(1, 0), (0, 1), (-1, 0), (0, -1)]
def sidesL (c : Pt) : List (Pt × (Pt × Pt)) := [((1, 0), ((c.1, c.2 - 1), (c.1, c.2))), ((0, 1), ((c.1, c.2), (c.1 - 1, c.2))), ((-1, 0), ((c.1 - 1, c.2), (c.1 - 1, c.2 - 1))), ((0, -1), ((c.1 - 1, c.2 - 1), (c.1, c.2 - 1)))]
def sidesD (c : Pt) : Dc (Pt × Pt) := (sidesL c).foldl (fun D e => D.put e.1 e.2) ⟨[]⟩
def sideAt (c w : Pt) : Pt × Pt := ((sidesD c).get w).getD default
def stepLR (D : Dc Pt) (l r : Pt) : Option Int :=
  if (!(D.get l).isSome && !(D.get r).isSome) = true then none
  else
    let dark := if (D.get l).isSome = true then decide ((l.1 + l.2) % 2 = 0) else decide ((r.1 + r.2) % 2 = 1)
    let s : Int := if dark = true then 1 else -1
    some (if ((D.get l).isSome && decide (D.get l = some r)) = true then -3 * s else s)
def lawStep (D : Dc Pt) (c w : Pt) : Option Int := stepLR D (sideAt c w).1 (sideAt c w).2
theorem side_1 (c : Pt) : (sidesD c).get (1, 0) = some ((c.1, c.2 - 1), (c.1, c.2)) := by rfl
theorem side_2 (c : Pt) : (sidesD c).get (0, 1) = some ((c.1, c.2), (c.1 - 1, c.2)) := by rfl
theorem side_3 (c : Pt) : (sidesD c).get (-1, 0) = some ((c.1 - 1, c.2), (c.1 - 1, c.2 - 1)) := by rfl
theorem side_4 (c : Pt) : (sidesD c).get (0, -1) = some ((c.1 - 1, c.2 - 1), (c.1, c.2 - 1)) := by rfl
theorem side_some {c w : Pt} (h : w ∈ lawWays) : ((sidesD c).get w).isSome = true := by
  simp only [lawWays, List.mem_cons, List.not_mem_nil, or_false] at h
  rcases h with rfl | rfl | rfl | rfl
  · rw [side_1]; rfl
  · rw [side_2]; rfl
  · rw [side_3]; rfl
  · rw [side_4]; rfl
abbrev sp__law_step (K : PySem.W.Frag) : Sp := Pu (tabs K) (R3 lawStep fun _ _ w => w ∈ lawWays)
def wayTo (c w : Pt) : Pt := (c.1 + w.1, c.2 + w.2)
def lawNb (D : Dc Pt) (c : Pt) : List (Pt × Int) := lawWays.filterMap fun w => (lawStep D c w).map fun s => (wayTo c w, s)
def lawNums (D : Dc Pt) : Dc Int := wAll (lawNb D) ((inOrder D.keys).headD default)
/-- cells that hang together, with a laying that has heights -/
structure LayH (cells : List Pt) (D : Dc Pt) : Prop where
  lay : Lay cells D
  so : cells.Pairwise ltYX
  ne : cells ≠ []
  cn : ConnS fun p => p ∈ cells
  pot : ∃ h, Pot cells D h
abbrev sp__law_numbers (K : PySem.W.Frag) : Sp := PuN (tabs K) (R1 lawNums fun D => ∃ cells, LayH cells D)
end Tf

/-! The law's own numbers are heights. -/
namespace Tf
open PySem PySem.Spec PyProof.Rows L2 Dt
theorem Full.isc {cells : List Pt} {D : Dc Pt} (F : Full cells D) (a : Pt) : (D.get a).isSome = true ↔ a ∈ cells := by
  constructor
  · intro h
    obtain ⟨b, e⟩ := Option.isSome_iff_exists.mp h
    exact F.half.mem a b e
  · exact F.all a
theorem stepLR_val {cells : List Pt} {D : Dc Pt} (F : Full cells D) {l r : Pt} (par : (l.1 + l.2 + r.1 + r.2) % 2 = 1) : (l ∈ cells ∨ r ∈ cells → stepLR D l r = some (if D.get l = some r then -3 * sgn2 l else sgn2 l)) ∧ (¬ (l ∈ cells ∨ r ∈ cells) → stepLR D l r = none) := by
  have il := F.isc l
  have ir := F.isc r
  have sl := sgn_cases l
  refine ⟨fun h => ?_, fun h => ?_⟩
  · unfold stepLR
    have n : ¬ ((!(D.get l).isSome && !(D.get r).isSome) = true) := fun z => by
      rw [Bool.and_eq_true] at z
      rcases h with h | h
      · rw [il.mpr h] at z; exact absurd z.1 (by decide)
      · rw [ir.mpr h] at z; exact absurd z.2 (by decide)
    rw [if_neg n]
    have dk : (if (D.get l).isSome = true then decide ((l.1 + l.2) % 2 = 0) else decide ((r.1 + r.2) % 2 = 1)) = decide ((l.1 + l.2) % 2 = 0) := by
      split
      · rfl
      · exact decide_eq_decide.mpr (by omega)
    have sv : (if (if (D.get l).isSome = true then decide ((l.1 + l.2) % 2 = 0) else decide ((r.1 + r.2) % 2 = 1)) = true then (1 : Int) else -1) = sgn2 l := by
      rw [dk]
      by_cases z : (l.1 + l.2) % 2 = 0
      · rw [decide_eq_true z, if_pos rfl]; omega
      · rw [decide_eq_false z, if_neg (by decide)]; omega
    show some (if ((D.get l).isSome && decide (D.get l = some r)) = true then -3 * (if (if (D.get l).isSome = true then decide ((l.1 + l.2) % 2 = 0) else decide ((r.1 + r.2) % 2 = 1)) = true then (1 : Int) else -1) else (if (if (D.get l).isSome = true then decide ((l.1 + l.2) % 2 = 0) else decide ((r.1 + r.2) % 2 = 1)) = true then (1 : Int) else -1)) = _
    rw [sv]
    by_cases z : D.get l = some r
    · rw [if_pos z, if_pos (by rw [z]; simp)]
    · rw [if_neg z, if_neg (by simp [z])]
  · unfold stepLR
    have n1 : (D.get l).isSome = false := by
      cases e : (D.get l).isSome with
      | false => rfl
      | true => exact (h (.inl (il.mp e))).elim
    have n2 : (D.get r).isSome = false := by
      cases e : (D.get r).isSome with
      | false => rfl
      | true => exact (h (.inr (ir.mp e))).elim
    rw [n1, n2]
    rfl
theorem lawStep_1 (D : Dc Pt) (c : Pt) : lawStep D c (1, 0) = stepLR D (c.1, c.2 - 1) (c.1, c.2) := by unfold lawStep sideAt; rw [side_1]; rfl
theorem lawStep_2 (D : Dc Pt) (c : Pt) : lawStep D c (0, 1) = stepLR D (c.1, c.2) (c.1 - 1, c.2) := by unfold lawStep sideAt; rw [side_2]; rfl
theorem lawStep_3 (D : Dc Pt) (c : Pt) : lawStep D c (-1, 0) = stepLR D (c.1 - 1, c.2) (c.1 - 1, c.2 - 1) := by unfold lawStep sideAt; rw [side_3]; rfl
theorem lawStep_4 (D : Dc Pt) (c : Pt) : lawStep D c (0, -1) = stepLR D (c.1 - 1, c.2 - 1) (c.1, c.2 - 1) := by unfold lawStep sideAt; rw [side_4]; rfl
/-- a step along a side, from either of its ends -/
theorem pot_adj {cells : List Pt} {D : Dc Pt} {h : Pt → Int} (F : Full cells D) (P : Pot cells D h) (p : Pt) :
    ((p.1, p.2 - 1) ∈ cells ∨ (p.1, p.2) ∈ cells → h (p.1 + 1, p.2) = h p + (if D.get (p.1, p.2 - 1) = some (p.1, p.2) then -3 * sgn2 (p.1, p.2 - 1) else sgn2 (p.1, p.2 - 1))) ∧
    ((p.1, p.2) ∈ cells ∨ (p.1 - 1, p.2) ∈ cells → h (p.1, p.2 + 1) = h p + (if D.get (p.1, p.2) = some (p.1 - 1, p.2) then -3 * sgn2 (p.1, p.2) else sgn2 (p.1, p.2))) ∧
    ((p.1 - 1, p.2) ∈ cells ∨ (p.1 - 1, p.2 - 1) ∈ cells → h (p.1 - 1, p.2) = h p + (if D.get (p.1 - 1, p.2) = some (p.1 - 1, p.2 - 1) then -3 * sgn2 (p.1 - 1, p.2) else sgn2 (p.1 - 1, p.2))) ∧
    ((p.1 - 1, p.2 - 1) ∈ cells ∨ (p.1, p.2 - 1) ∈ cells → h (p.1, p.2 - 1) = h p + (if D.get (p.1 - 1, p.2 - 1) = some (p.1, p.2 - 1) then -3 * sgn2 (p.1 - 1, p.2 - 1) else sgn2 (p.1 - 1, p.2 - 1))) := by
  obtain ⟨x, y⟩ := p
  simp only
  refine ⟨fun m => P.hor x y m, fun m => P.ver x y m, fun m => ?_, fun m => ?_⟩
  · have k := P.hor (x - 1) y m.symm
    have ex : x - 1 + 1 = x := by omega
    rw [ex] at k
    unfold stepH at k
    have s1 := sgn_cases (x - 1, y)
    have s2 := sgn_cases (x - 1, y - 1)
    simp only at s1 s2
    by_cases z : D.get (x - 1, y) = some (x - 1, y - 1)
    · rw [if_pos (F.half.sym _ _ z)] at k
      rw [if_pos z]
      omega
    · rw [if_neg (fun w => z (F.half.sym _ _ w))] at k
      rw [if_neg z]
      omega
  · have k := P.ver x (y - 1) m.symm
    have ey : y - 1 + 1 = y := by omega
    rw [ey] at k
    unfold stepV at k
    have s1 := sgn_cases (x - 1, y - 1)
    have s2 := sgn_cases (x, y - 1)
    simp only at s1 s2
    by_cases z : D.get (x - 1, y - 1) = some (x, y - 1)
    · rw [if_pos (F.half.sym _ _ z)] at k
      rw [if_pos z]
      omega
    · rw [if_neg (fun w => z (F.half.sym _ _ w))] at k
      rw [if_neg z]
      omega
theorem lawNb_ok {cells : List Pt} {D : Dc Pt} {h : Pt → Int} (F : Full cells D) (P : Pot cells D h) : Nb cells h (lawNb D) := by
  have key : ∀ p, ∀ w ∈ lawWays, (∀ s, lawStep D p w = some s → Adj cells p (wayTo p w) ∧ h (wayTo p w) = h p + s) ∧ (Adj cells p (wayTo p w) → ∃ s, lawStep D p w = some s) := fun p w hw => by
    obtain ⟨a1, a2, a3, a4⟩ := pot_adj F P p
    obtain ⟨x, y⟩ := p
    simp only [lawWays, List.mem_cons, List.not_mem_nil, or_false] at hw
    simp only at a1 a2 a3 a4
    rcases hw with rfl | rfl | rfl | rfl
    · have e : wayTo (x, y) (1, 0) = (x + 1, y) := by show (x + 1, y + 0) = _; rw [Int.add_zero]
      rw [e, lawStep_1]
      simp only
      obtain ⟨v1, v2⟩ := stepLR_val F (l := (x, y - 1)) (r := (x, y)) (by simp only; omega)
      refine ⟨fun s hs => ?_, fun ad => ?_⟩
      · have m : (x, y - 1) ∈ cells ∨ (x, y) ∈ cells := Classical.byContradiction fun n => by rw [v2 n] at hs; cases hs
        rw [v1 m] at hs
        cases hs
        exact ⟨.inl ⟨rfl, m⟩, a1 m⟩
      · refine ⟨_, v1 ?_⟩
        rcases ad with ⟨_, m⟩ | ⟨z, m⟩ | ⟨z, m⟩ | ⟨z, m⟩
        · exact m
        all_goals (injection z with z1 z2; omega)
    · have e : wayTo (x, y) (0, 1) = (x, y + 1) := by show (x + 0, y + 1) = _; rw [Int.add_zero]
      rw [e, lawStep_2]
      simp only
      obtain ⟨v1, v2⟩ := stepLR_val F (l := (x, y)) (r := (x - 1, y)) (by simp only; omega)
      refine ⟨fun s hs => ?_, fun ad => ?_⟩
      · have m : (x, y) ∈ cells ∨ (x - 1, y) ∈ cells := Classical.byContradiction fun n => by rw [v2 n] at hs; cases hs
        rw [v1 m] at hs
        cases hs
        exact ⟨.inr (.inl ⟨rfl, m⟩), a2 m⟩
      · refine ⟨_, v1 ?_⟩
        rcases ad with ⟨z, m⟩ | ⟨_, m⟩ | ⟨z, m⟩ | ⟨z, m⟩
        · injection z with z1 z2; omega
        · exact m
        all_goals (injection z with z1 z2; omega)
    · have e : wayTo (x, y) (-1, 0) = (x - 1, y) := by show (x + -1, y + 0) = _; rw [Int.add_zero]; rfl
      rw [e, lawStep_3]
      simp only
      obtain ⟨v1, v2⟩ := stepLR_val F (l := (x - 1, y)) (r := (x - 1, y - 1)) (by simp only; omega)
      refine ⟨fun s hs => ?_, fun ad => ?_⟩
      · have m : (x - 1, y) ∈ cells ∨ (x - 1, y - 1) ∈ cells := Classical.byContradiction fun n => by rw [v2 n] at hs; cases hs
        rw [v1 m] at hs
        cases hs
        exact ⟨.inr (.inr (.inl ⟨rfl, m.symm⟩)), a3 m⟩
      · refine ⟨_, v1 ?_⟩
        rcases ad with ⟨z, m⟩ | ⟨z, m⟩ | ⟨_, m⟩ | ⟨z, m⟩
        · injection z with z1 z2; omega
        · injection z with z1 z2; omega
        · exact m.symm
        · injection z with z1 z2; omega
    · have e : wayTo (x, y) (0, -1) = (x, y - 1) := by show (x + 0, y + -1) = _; rw [Int.add_zero]; rfl
      rw [e, lawStep_4]
      simp only
      obtain ⟨v1, v2⟩ := stepLR_val F (l := (x - 1, y - 1)) (r := (x, y - 1)) (by simp only; omega)
      refine ⟨fun s hs => ?_, fun ad => ?_⟩
      · have m : (x - 1, y - 1) ∈ cells ∨ (x, y - 1) ∈ cells := Classical.byContradiction fun n => by rw [v2 n] at hs; cases hs
        rw [v1 m] at hs
        cases hs
        exact ⟨.inr (.inr (.inr ⟨rfl, m.symm⟩)), a4 m⟩
      · refine ⟨_, v1 ?_⟩
        rcases ad with ⟨z, m⟩ | ⟨z, m⟩ | ⟨z, m⟩ | ⟨_, m⟩
        · injection z with z1 z2; omega
        · injection z with z1 z2; omega
        · injection z with z1 z2; omega
        · exact m.symm
  refine ⟨fun p _ e he => ?_, fun p _ q ad => ?_⟩
  · unfold lawNb at he
    rw [List.mem_filterMap] at he
    obtain ⟨w, hw, z⟩ := he
    cases hs : lawStep D p w with
    | none => rw [hs] at z; cases z
    | some s =>
      rw [hs] at z
      cases z
      exact (key p w hw).1 s hs
  · have : ∃ w ∈ lawWays, q = wayTo p w := by
      obtain ⟨x, y⟩ := p
      rcases ad with ⟨rfl, _⟩ | ⟨rfl, _⟩ | ⟨rfl, _⟩ | ⟨rfl, _⟩
      · exact ⟨(1, 0), by decide, by show _ = (x + 1, y + 0); rw [Int.add_zero]⟩
      · exact ⟨(0, 1), by decide, by show _ = (x + 0, y + 1); rw [Int.add_zero]⟩
      · exact ⟨(-1, 0), by decide, by show _ = (x + -1, y + 0); rw [Int.add_zero]; rfl⟩
      · exact ⟨(0, -1), by decide, by show _ = (x + 0, y + -1); rw [Int.add_zero]; rfl⟩
    obtain ⟨w, hw, rfl⟩ := this
    obtain ⟨s, hs⟩ := (key p w hw).2 ad
    refine ⟨(wayTo p w, s), ?_, rfl⟩
    unfold lawNb
    rw [List.mem_filterMap]
    exact ⟨w, hw, by rw [hs]; rfl⟩
def corL (cells : List Pt) : List Pt := cells.flatMap corners4
theorem cor_fin {cells : List Pt} (p : Pt) (h : Cor cells p) : p ∈ corL cells := by
  unfold corL
  rw [List.mem_flatMap]
  obtain ⟨x, y⟩ := p
  unfold corners4
  have e1 : x - 1 + 1 = x := by omega
  have e2 : y - 1 + 1 = y := by omega
  rcases h with h | h | h | h
  · exact ⟨_, h, by simp [e1, e2]⟩
  · exact ⟨_, h, by simp [e2]⟩
  · exact ⟨_, h, by simp [e1]⟩
  · exact ⟨_, h, by simp⟩
theorem corL_len {cells : List Pt} (h : cells.length ≤ 36) : (corL cells).length ≤ 144 := by
  unfold corL
  have : ∀ l : List Pt, (l.flatMap corners4).length = 4 * l.length := by
    intro l
    induction l with
    | nil => rfl
    | cons a l ih =>
      rw [List.flatMap_cons, List.length_append, ih]
      simp only [corners4, List.length_cons, List.length_nil]
      omega
  rw [this]
  omega
theorem LayH.fst {cells : List Pt} {D : Dc Pt} (L : LayH cells D) : inOrder D.keys = cells := by
  have pk : List.Perm D.keys cells := (List.perm_ext_iff_of_nodup L.lay.nk (nodup_lt L.so)).mpr fun k => L.lay.keys_cells
  have pm : List.Perm (inOrder D.keys) cells := (List.mergeSort_perm _ _).trans pk
  have trans : ∀ a b c : Pt, yx a b = true → yx b c = true → yx a c = true := fun a b c h k => by
    unfold yx at *
    simp only [decide_eq_true_eq] at *
    omega
  have total : ∀ a b : Pt, (yx a b || yx b a) = true := fun a b => by
    unfold yx
    simp only [Bool.or_eq_true, decide_eq_true_eq]
    omega
  refine List.Perm.eq_of_pairwise (le := fun a b => yx a b = true) (fun a b _ _ h1 h2 => ?_) (List.pairwise_mergeSort trans total _) (L.so.imp fun {a b} h => ?_) pm
  · unfold yx at h1 h2
    simp only [decide_eq_true_eq] at h1 h2
    exact Prod.ext (by omega) (by omega)
  · unfold ltYX at h
    unfold yx
    simp only [decide_eq_true_eq]
    omega
def fstOf (cells : List Pt) : Pt := cells.headD default
theorem fst_mem {cells : List Pt} (h : cells ≠ []) : fstOf cells ∈ cells := by
  cases cells with
  | nil => exact (h rfl).elim
  | cons a l => exact List.mem_cons_self
theorem LayH.nums {cells : List Pt} {D : Dc Pt} (L : LayH cells D) {h : Pt → Int} (P : Pot cells D h) : HtOf cells h (fstOf cells) (lawNums D) := by
  unfold lawNums
  rw [L.fst]
  exact wAll_ok cor_fin (by have := corL_len L.lay.sm; omega) L.cn (fst_mem L.ne) (lawNb_ok L.lay.full P)
end Tf
namespace Tf
open PySem PySem.Spec PyProof.Rows L2 Dt
def lawVis (D : Dc Pt) (here : Pt) (g : Dc Int × List Pt) (w : Pt) : Dc Int × List Pt := match lawStep D here w with
  | none => g
  | some s => wVisit here g (wayTo here w, s)
theorem law_fold (D : Dc Pt) (here : Pt) (N : Dc Int) (W : List Pt) : lawWays.foldl (lawVis D here) (N, W) = wTurn (lawNb D) N W here := by
  unfold wTurn lawNb
  rw [List.foldl_filterMap]
  congr 1
  funext g w
  unfold lawVis
  cases lawStep D here w <;> rfl
theorem wVisit_len (here : Pt) (g : Dc Int × List Pt) (e : Pt × Int) : (wVisit here g e).1.l.length ≤ g.1.l.length + 1 ∧ (wVisit here g e).2.length ≤ g.2.length + 1 := by
  unfold wVisit
  split
  · exact ⟨by omega, by omega⟩
  · refine ⟨Dc.put_len _ _ _, by simp⟩
theorem wVisit_old {here : Pt} {g : Dc Int × List Pt} {e : Pt × Int} {q : Pt} (h : (g.1.get q).isSome = true) : ((wVisit here g e).1.get q).isSome = true := by
  unfold wVisit
  split
  · exact h
  · exact get_put_some h
/-- a turn of the going, so far -/
structure Going (nb : Pt → List (Pt × Int)) (cells : List Pt) (h : Pt → Int) (s : Pt) (g : Nat × Dc Int × List Pt) : Prop where
  k : g.1 ≤ 400
  m : wMeas (corL cells).length g.2 ≤ g.1
  w : Wk (Cor cells) h s g.2
  c : WkC nb g.2
  e : wGo nb g.1 g.2 = wGo nb 400 (wStart s)
section
variable {nb : Pt → List (Pt × Int)} {cells : List Pt} {h : Pt → Int} {s : Pt}
theorem going_start (n : Nb cells h nb) (hl : cells.length ≤ 36) (hs : s ∈ cells) : Going nb cells h s (400, wStart s) := by
  obtain ⟨w, c⟩ := wStart_ok (h := h) (nb := nb) (C := Cor cells) (Cor.self hs)
  refine ⟨Nat.le_refl _, ?_, w, c, rfl⟩
  have := corL_len hl
  unfold wMeas wStart
  simp only [List.length_singleton]
  omega
theorem going_turn (n : Nb cells h nb) {k : Nat} {N : Dc Int} {W : List Pt} {here : Pt} (G : Going nb cells h s (k, N, W ++ [here])) : ∃ j, k = j + 1 ∧ Going nb cells h s (j, wTurn nb N W here) := by
  have m := G.m
  have m1 : 1 ≤ wMeas (corL cells).length (N, W ++ [here]) := by
    unfold wMeas
    simp only [List.length_append, List.length_singleton]
    omega
  obtain ⟨a1, a2, a3⟩ := wTurn_ok cor_fin n.step G.w G.c
  have kk := G.k
  simp only at m kk
  refine ⟨k - 1, by omega, by show k - 1 ≤ 400; omega, by show wMeas _ (wTurn nb N W here) ≤ k - 1; omega, a1, a2, ?_⟩
  have e := G.e
  obtain ⟨j, rfl⟩ : ∃ j, k = j + 1 := ⟨k - 1, by omega⟩
  simp only at e
  rw [wGo_last] at e
  exact e
theorem going_done {k : Nat} {N : Dc Int} (G : Going nb cells h s (k, N, [])) : wAll nb s = N := by
  have e := G.e
  simp only at e
  unfold wAll
  rw [← e, wGo_nil]
theorem Going.len {k : Nat} {N : Dc Int} {W : List Pt} (hl : cells.length ≤ 36) (G : Going nb cells h s (k, N, W)) : N.l.length ≤ 144 ∧ W.length ≤ 400 := by
  have := corL_len hl
  have l := wk_len cor_fin G.w
  have m := G.m
  have kk := G.k
  unfold wMeas at m
  simp only at l m kk
  exact ⟨by omega, by omega⟩
end
end Tf

/-! Layings that are handed in: pieces looked at one by one, or refused. -/
namespace Tf
open PySem PySem.Spec PyProof.Rows L2 Dt
def pieceD (f : Fl) (x : PyData) : Bool := match x with
  | .tuple [a, b] => hasD f a && (hasD f b && decide (ptD b ∈ besideOf f (ptD a)))
  | _ => false
def okPiece (x : PyData) : Prop := plain x = true ∧ ∀ a b, x = .tuple [a, b] → okThing a ∧ okThing b
abbrev sp_is_piece (K : PySem.W.Frag) : Sp := Pu (tabs K) (R2' pieceD fun f x => isFl K f ∧ okPiece x)
def oneD : PyData → Pt
  | .tuple [a, _] => ptD a
  | _ => (0, 0)
def twoD : PyData → Pt
  | .tuple [_, b] => ptD b
  | _ => (0, 0)
theorem piece_of {f : Fl} {x : PyData} (h : pieceD f x = true) : x = d (oneD x, twoD x) ∧ inK f (oneD x) = true ∧ inK f (twoD x) = true ∧ twoD x ∈ besideOf f (oneD x) := by
  unfold pieceD at h
  split at h
  · rename_i a b
    rw [Bool.and_eq_true, Bool.and_eq_true] at h
    obtain ⟨h1, h2, h3⟩ := h
    unfold hasD at h1 h2
    rw [Bool.and_eq_true] at h1 h2
    refine ⟨?_, h1.2, h2.2, of_decide_eq_true h3⟩
    show PyData.tuple [a, b] = .tuple [d (ptD a), d (ptD b)]
    rw [← place_pt h1.1, ← place_pt h2.1]
  · cases h
def partStep (f : Fl) (D : Dc Pt) (y : PyData) : Option (Dc Pt) := if pieceD f y = true then (if (D.get (oneD y)).isSome = true ∨ (D.get (twoD y)).isSome = true then none else some (putPair D (oneD y) (twoD y))) else none
def partGo (f : Fl) : List PyData → Dc Pt → Option (Dc Pt)
  | [], D => some D
  | y :: ys, D => match partStep f D y with
    | none => none
    | some D' => partGo f ys D'
def partsD (f : Fl) (xs : List PyData) : Option (Dc Pt) := match partGo f xs ⟨[]⟩ with
  | none => none
  | some D => if D.l.length < f.cells.length then none else some D
def partsR (f : Fl) (x : PyData) : Except Str PyData := match x with
  | .list xs => (match partsD f xs with
    | some D => .ok (d D)
    | none => .error "BadLaying")
  | _ => .error "BadLaying"
structure okPieces (x : PyData) : Prop where
  pl : plain x = true
  each : ∀ xs, x = .list xs → xs.length ≤ 1000 ∧ ∀ y ∈ xs, okPiece y
def PartsP (K : PySem.W.Frag) (es : List PyData) (r : Except Str PyData) : Prop := ∃ (f : Fl) (x : PyData), es = [d f, x] ∧ FlG K f ∧ okPieces x ∧ r = partsR f x
abbrev sp_partners_in (K : PySem.W.Frag) : Sp := Px (tabs K) K true (PartsP K)
theorem lenPa {K : PySem.W.Frag} {vs : List V} {H : Hp} {Q : VK} {E : XK} (h : sp_partners_in K vs H Q E) : vs.length = 2 := len_px (N := 2) (fun es r ⟨f, x, e, _⟩ => by rw [e]; rfl) h
/-- what is so far laid -/
structure Laid2 (f : Fl) (D : Dc Pt) : Prop where
  half : Half f.cells D
  nk : D.keys.Nodup
theorem part_step {K : PySem.W.Frag} {f : Fl} (fl : FlG K f) {D D' : Dc Pt} {y : PyData} (L : Laid2 f D) (h : partStep f D y = some D') : Laid2 f D' := by
  unfold partStep at h
  split at h
  · rename_i hp
    split at h
    · cases h
    · rename_i hn
      cases h
      obtain ⟨_, h1, h2, h3⟩ := piece_of hp
      have n1 : D.get (oneD y) = none := none_of fun z => hn (.inl z)
      have n2 : D.get (twoD y) = none := none_of fun z => hn (.inr z)
      exact ⟨(putPair_half L.half n1 n2 (List.mem_filter.mp h3).1 (fl.mem.mp h1) (fl.mem.mp h2)).1, put_nk (put_nk L.nk _ _) _ _⟩
  · cases h
theorem part_go {K : PySem.W.Frag} {f : Fl} (fl : FlG K f) : ∀ {xs : List PyData} {D D' : Dc Pt}, Laid2 f D → partGo f xs D = some D' → Laid2 f D'
  | [], D, D', L, h => by
    cases h
    exact L
  | y :: ys, D, D', L, h => by
    unfold partGo at h
    split at h
    · cases h
    · rename_i D1 e
      exact part_go fl (part_step fl L e) h
theorem parts_full {K : PySem.W.Frag} {f : Fl} (fl : FlG K f) {xs : List PyData} {D : Dc Pt} (h : partsD f xs = some D) : Full f.cells D := by
  unfold partsD at h
  split at h
  · cases h
  · rename_i D1 e
    split at h
    · cases h
    · rename_i hl
      cases h
      have L := part_go fl ⟨half_none _, List.nodup_nil⟩ e
      refine ⟨L.half, fun c hc => ?_⟩
      have := sub_all (l := D.keys) (m := f.cells) L.nk (fun q hq => by
        obtain ⟨x, hx⟩ := Dc.mem_keys.mp hq
        exact L.half.mem q x hx) (by rw [Dc.keys_length]; omega) c hc
      obtain ⟨x, hx⟩ := Dc.mem_keys.mp this
      rw [hx]
      rfl
section
variable {T : List (Addr × Str)} {K : PySem.W.Frag} {E : XK} {Γ Δ : List Sl} {R : Out → Prop} {te : TE}
theorem r_raise {t : TS} {c : Str} (k : R (.ex c)) (ht : ∀ D σ H, E (.ref (He.ga K c)) none H → t D σ H := by exact fun _ _ _ h => h) : Run T K E Γ t R := fun F0 H0 F H σ D o f => ht D σ H (f.ex c F H k (Same.refl _) o.st)
theorem ex_typeIs {x : PyData} {b : String} {neg : Bool} (h : Ex T Δ te x) (hp : plain x = true) : Ex T Δ (tOp (rIsU neg) (tCB (rTyp K) (tCons te tNil)) (tC (.ty b))) (d (if neg then !decide (tyName x = b) else decide (tyName x = b))) := .of fun _ _ s => ev_typeIs (x := x) (h.atX s) hp
end
def toldR (f : Fl) (x : PyData) : Except Str PyData := match x with
  | .list xs => (match partsD f xs with
    | some D => .ok (d (layF f.cells D))
    | none => .error "BadLaying")
  | _ => .error "BadLaying"
abbrev sp_told_laying (K : PySem.W.Frag) : Sp := Px (tabs K) K true fun es r => ∃ (f : Fl) (x : PyData), es = [d f, x] ∧ FlG K f ∧ okPieces x ∧ r = toldR f x
theorem lenTo {K : PySem.W.Frag} {vs : List V} {H : Hp} {Q : VK} {E : XK} (h : sp_told_laying K vs H Q E) : vs.length = 2 := len_px (N := 2) (fun es r ⟨f, x, e, _⟩ => by rw [e]; rfl) h
theorem parts_cases (f : Fl) (x : PyData) : (∃ D xs, x = .list xs ∧ partsD f xs = some D ∧ partsR f x = .ok (d D)) ∨ partsR f x = .error "BadLaying" := by
  unfold partsR
  split
  · rename_i xs
    cases h : partsD f xs with
    | some D => exact .inl ⟨D, xs, rfl, h, rfl⟩
    | none => exact .inr rfl
  · exact .inr rfl
theorem told_ok {f : Fl} {xs : List PyData} {D : Dc Pt} (h : partsD f xs = some D) : toldR f (.list xs) = .ok (d (layF f.cells D)) := by
  unfold toldR
  simp only [h]
theorem told_bad {f : Fl} {x : PyData} (h : partsR f x = .error "BadLaying") : toldR f x = .error "BadLaying" := by
  unfold toldR
  unfold partsR at h
  split at h
  · rename_i xs
    cases e : partsD f xs with
    | some D =>
      simp only [e] at h
      cases h
    | none => rfl
  · rfl
theorem er_pxW {T : List (Addr × Str)} {K : PySem.W.Frag} {E E' : XK} {Δ : List Sl} {tr : TA} {es : List PyData} {n : Bool} {P : List PyData → Except Str PyData → Prop} {x : Str} (h : Ea T Δ tr es) (r : P es (.error x)) (hE : ∀ c H, E c none H → E' c none H) : Er T K E Δ (tCall (Px T K n P) [] E' tr) x := fun σ F s H su t z Q => h σ F s H su t _ fun vs F1 H1 s1 rv => ⟨F1, es, .error x, s1.sub, s1.tab, by rw [List.append_nil]; exact rv, r, fun F2 H2 s2 => hE _ _ (z F2 H2 (s1.trans s2))⟩
theorem ex_pxW {T : List (Addr × Str)} {K : PySem.W.Frag} {E' : XK} {Δ : List Sl} {tr : TA} {es : List PyData} {n : Bool} {P : List PyData → Except Str PyData → Prop} {e : PyData} (h : Ea T Δ tr es) (r : P es (.ok e)) : Ex T Δ (tCall (Px T K n P) [] E' tr) e := fun σ F s H su t Q q => h σ F s H su t _ fun vs F1 H1 s1 rv => ⟨F1, es, .ok e, s1.sub, s1.tab, by rw [List.append_nil]; exact rv, r, fun v F2 H2 s2 r2 _ => q v F2 H2 (s1.trans s2) r2⟩
end Tf

/-! k07's law: what it looks at. -/
namespace Tf
open PySem PySem.Spec PyProof.Rows L2 Dt
structure Laid (cells : List Pt) (ps : List Pc) : Prop where
  so : ps.mergeSort yxF = ps
  each : ∀ p ∈ ps, p.2 = (p.1.1 + 1, p.1.2) ∨ p.2 = (p.1.1, p.1.2 + 1)
  cov : inOrder (ps.flatMap fun p => [p.1, p.2]) = cells
  sm : ps.length ≤ 36
structure ShortL (cells A : List Pt) : Prop where
  sh : Short cells A
  so : inOrder A = A
  sm : A.length ≤ 36
  cm : cells.length ≤ 36
abbrev sp__law_is_laid (K : PySem.W.Frag) : Sp := Pu (tabs K) (R2' (fun (_ : List Pt) (_ : List Pc) => true) Laid)
abbrev sp__law_is_short (K : PySem.W.Frag) : Sp := Pu (tabs K) (R2' (fun (_ _ : List Pt) => true) ShortL)
/-- what is told, as the law's own cells have it -/
structure Told (cells : List Pt) (r : PyData) : Prop where
  los : LoS cells r
  so : cells.Pairwise ltYX
  sm : cells.length ≤ 36
abbrev sp__law_holds (K : PySem.W.Frag) : Sp := Pu (tabs K) (R2' (fun (_ : List Pt) (_ : PyData) => true) Told)
section
variable {T : List (Addr × Str)} {K : PySem.W.Frag} {Δ : List Sl} {ta tb te : TE} {α : Type}
theorem ex_isi {_ : Dt α} {x : α} {b : String} {r : Bool} (h : Ex T Δ te (d x)) (hp : plain (d x) = true) (hk : PySem.W.kitOne K (.type (tyName (d x))) (.type b) = some r) : Ex T Δ (tCB (rIsi K) (tCons te (tCons (tC (.ty b)) tNil))) (d r) := .of fun _ _ s => ev_isi (h.at s) hp hk
theorem ex_notinT {x a b : Str} {r : Bool} (ha : Ex T Δ ta (d x)) (hb : Ex T Δ tb (.tuple [d a, d b])) (e : inV (.str x) [.str a, .str b] = r) : Ex T Δ (tOr2 (tOp (rNotInU K) ta tb) (tDNotIn ta tb)) (d (!r)) := fun σ F s H su t Q q =>
  .inl (ha σ F s H su t _ fun v F1 H1 s1 r1 => hb σ F1 (s.mono s1.ff) H1 s1.sub s1.tab _ fun w F2 H2 s2 r2 => by
    cases rv_str r1
    cases r2 with
    | tup at_ all =>
      cases all with
      | cons a1 more =>
        cases more with
        | cons a2 more =>
          cases more
          cases rv_str (i := a) a1
          cases rv_str (i := b) a2
          refine .inr (.inl ⟨_, _, rfl, .inr (SqT.of (s2.sub _ _ at_).1), rfl, rfl, ?_⟩)
          rw [e]
          exact q _ F2 H2 (s1.trans s2) (.bl _))
end
theorem cov_fold (ps : List Pc) : ∀ c : List Pt, ps.foldl (fun c p => c ++ [p.1, p.2]) c = c ++ ps.flatMap fun p => [p.1, p.2] := by
  induction ps with
  | nil => intro c; simp
  | cons p ps ih =>
    intro c
    rw [List.foldl_cons, ih, List.flatMap_cons]
    simp
theorem yx_lt {a b : Pt} (h : ltYX a b) : yx a b = true := by
  unfold yx
  unfold ltYX at h
  refine decide_eq_true ?_
  omega
theorem laid_of {cells : List Pt} {D : Dc Pt} (F : Full cells D) (so : cells.Pairwise ltYX) (sm : cells.length ≤ 36) : Laid cells (layF cells D) := by
  have el : ∀ p ∈ layF cells D, p.1 ∈ cells ∧ ltYX p.1 p.2 ∧ p.2 = oth D p.1 := fun p hp => by
    obtain ⟨c, hc, rfl⟩ := List.mem_map.mp hp
    have := List.mem_filter.mp hc
    exact ⟨this.1, ltB_iff.mp this.2, rfl⟩
  have pw : (layF cells D).Pairwise fun a b => ltYX a.1 b.1 := by
    unfold layF
    rw [List.pairwise_map]
    exact so.filter _
  have one : ∀ c ∈ cells, c ∈ (layF cells D).flatMap fun p => [p.1, p.2] := fun c hc => by
    rw [List.mem_flatMap]
    cases hb : ltB c (oth D c) with
    | true => exact ⟨(c, oth D c), List.mem_map.mpr ⟨c, List.mem_filter.mpr ⟨hc, hb⟩, rfl⟩, by simp⟩
    | false =>
      have lt : ltYX (oth D c) c := (lt_or (beside_ne (F.bes hc))).resolve_right fun z => by rw [ltB_iff.mpr z] at hb; cases hb
      exact ⟨(oth D c, oth D (oth D c)), List.mem_map.mpr ⟨oth D c, List.mem_filter.mpr ⟨F.mem hc, by rw [F.back hc]; exact ltB_iff.mpr lt⟩, rfl⟩, by rw [F.back hc]; simp⟩
  have nd : ((layF cells D).flatMap fun p => [p.1, p.2]).Nodup := by
    refine List.pairwise_flatMap.mpr ⟨fun p hp => ?_, pw.imp_of_mem fun {a b} ha hb lt x hx y hy e => ?_⟩
    · obtain ⟨_, h2, _⟩ := el p hp
      have ne : p.1 ≠ p.2 := fun z => by
        rw [← z] at h2
        exact ltYX_irr h2
      simp [ne]
    · obtain ⟨a1, a2, a3⟩ := el a ha
      obtain ⟨b1, b2, b3⟩ := el b hb
      have n1 : a.1 ≠ b.1 := fun z => by
        rw [z] at lt
        exact ltYX_irr lt
      have n2 : a.1 ≠ b.2 := fun z => by
        have e2 : a.2 = b.1 := by rw [a3, z, b3, F.back b1]
        rw [z, e2] at a2
        exact lt_asym a2 b2
      have n3 : a.2 ≠ b.1 := fun z => by
        have e2 : b.2 = a.1 := by rw [b3, ← z, a3, F.back a1]
        exact n2 e2.symm
      have n4 : a.2 ≠ b.2 := fun z => by
        have : oth D a.2 = oth D b.2 := by rw [z]
        rw [a3, b3, F.back a1, F.back b1] at this
        exact n1 this
      simp only [List.mem_cons, List.not_mem_nil, or_false] at hx hy
      rcases hx with rfl | rfl <;> rcases hy with rfl | rfl
      · exact n1 e
      · exact n2 e
      · exact n3 e
      · exact n4 e
  refine ⟨List.mergeSort_of_pairwise (pw.imp fun {a b} h => yx_lt h), fun p hp => ?_, sorted_ext (inOrder_sorted nd) so fun p => ?_, Nat.le_trans (lay_len cells D) sm⟩
  · obtain ⟨h1, h2, h3⟩ := el p hp
    have hb := F.bes h1
    rw [← h3] at hb
    obtain ⟨⟨x, y⟩, ⟨u, v⟩⟩ := p
    unfold ltYX at h2
    unfold beside4 at hb
    simp only [List.mem_cons, Prod.mk.injEq, List.not_mem_nil, or_false] at hb h2 ⊢
    omega
  · unfold inOrder
    rw [List.mem_mergeSort]
    constructor
    · intro h
      obtain ⟨q, hq, z⟩ := List.mem_flatMap.mp h
      obtain ⟨a1, _, a3⟩ := el q hq
      simp only [List.mem_cons, List.not_mem_nil, or_false] at z
      rcases z with rfl | rfl
      · exact a1
      · rw [a3]
        exact F.mem a1
    · exact one p
theorem short_of {cells A : List Pt} (h : Short cells A) (sm : cells.length ≤ 36) : ShortL cells (inOrder A) := by
  have pm : List.Perm (inOrder A) A := List.mergeSort_perm A yx
  refine ⟨⟨fun z => h.ne ?_, pm.nodup_iff.mpr h.nd, fun x hx => h.sub x (pm.mem_iff.mp hx), fun x hx y hy => h.col x (pm.mem_iff.mp hx) y (pm.mem_iff.mp hy), fun N nd hN => ?_⟩, ?_, ?_, sm⟩
  · rw [z] at pm
    exact pm.symm.eq_nil
  · rw [pm.length_eq]
    exact h.few N nd fun o ho => (hN o ho).imp id fun ⟨x, a, b⟩ => ⟨x, pm.mem_iff.mp a, b⟩
  · exact List.mergeSort_of_pairwise ((inOrder_sorted h.nd).imp fun {a b} h => yx_lt h)
  · rw [pm.length_eq]
    have := sub_length h.nd h.sub
    omega
theorem ex_eqS {T : List (Addr × Str)} {K : PySem.W.Frag} {Δ : List Sl} {ta tb : TE} {x y : Str} {r : Bool} (ha : Ex T Δ ta (d x)) (hb : Ex T Δ tb (d y)) (h : SeqAt.shaped (.str x) = true ∧ SeqAt.shaped (.str y) = true ∧ PyData.eqv (.str x) (.str y) = r) : Ex T Δ (tOp (rEqD K) ta tb) (d r) := ex_eq (ex_eqX ha hb h.1 h.2.1) (congrArg d h.2.2)
theorem ex_neS {T : List (Addr × Str)} {K : PySem.W.Frag} {Δ : List Sl} {ta tb : TE} {x y : Str} {r : Bool} (ha : Ex T Δ ta (d x)) (hb : Ex T Δ tb (d y)) (h : SeqAt.shaped (.str x) = true ∧ SeqAt.shaped (.str y) = true ∧ PyData.eqv (.str x) (.str y) = r) : Ex T Δ (tOp (rNeD K) ta tb) (d (!r)) := .of fun _ _ s => ev_eq (ev_neX (ha.atX s) (hb.atX s) h.1 h.2.1) (congrArg (! ·) h.2.2)
theorem s_ll : SeqAt.shaped (.str "laid") = true ∧ SeqAt.shaped (.str "laid") = true ∧ PyData.eqv (.str "laid") (.str "laid") = true := by decide +kernel
theorem s_ss : SeqAt.shaped (.str "short") = true ∧ SeqAt.shaped (.str "short") = true ∧ PyData.eqv (.str "short") (.str "short") = true := by decide +kernel
theorem s_sl : SeqAt.shaped (.str "short") = true ∧ SeqAt.shaped (.str "laid") = true ∧ PyData.eqv (.str "short") (.str "laid") = false := by decide +kernel
def rows7 (ns : List Int) : BR := if cellAt ns 2 % 2 = 1 then canRows ns else anyRows ns
theorem fine7 (ns : List Int) : Fine (rows7 ns) := by
  unfold rows7
  split
  · exact can_fine ns
  · exact fine_any ns
theorem flG_of {K : PySem.W.Frag} {rows : BR} (f : Fine rows) : FlG K (flOf (He.ga K "Floor") (rtexts rows)) ∧ (flOf (He.ga K "Floor") (rtexts rows)).cells = lawCells rows :=
  ⟨⟨rfl, fun p => inK_of _ _ p, cellsIn_sorted _, cells36 f.rows⟩, cells_law rows⟩
/-- what is told as a pair -/
inductive Ans (cells : List Pt) : PyData → Bool → Prop
  | laid (D : Dc Pt) (h : Full cells D) : Ans cells (d (("laid" : Str), layF cells D)) true
  | short (A : List Pt) (h : Short cells A) : Ans cells (d (("short" : Str), inOrder A)) false
theorem ans_of {cells : List Pt} {r : PyData} (h : LoS cells r) : ∃ b, Ans cells r b := by
  cases h with
  | laid D h => exact ⟨true, .laid D h⟩
  | short A h => exact ⟨false, .short A h⟩
theorem ans_same {cells : List Pt} {r s : PyData} {a b : Bool} (h : Ans cells r a) (k : Ans cells s b) : a = b := by
  cases h with
  | laid D F =>
    cases k with
    | laid => rfl
    | short A S => exact (no_short F S).elim
  | short A S =>
    cases k with
    | laid D F => exact (no_short F S).elim
    | short => rfl
def kind (b : Bool) : Str := if b then "laid" else "short"
theorem s_kk (b : Bool) : SeqAt.shaped (.str (kind b)) = true ∧ SeqAt.shaped (.str (kind b)) = true ∧ PyData.eqv (.str (kind b)) (.str (kind b)) = true := by
  cases b
  · exact s_ss
  · exact s_ll
theorem s_kl (b : Bool) : SeqAt.shaped (.str (kind b)) = true ∧ SeqAt.shaped (.str "laid") = true ∧ PyData.eqv (.str (kind b)) (.str "laid") = b := by
  cases b
  · exact s_sl
  · exact s_ll
section
variable {T : List (Addr × Str)} {K : PySem.W.Frag} {Δ : List Sl} {te : TE} {cells : List Pt} {r : PyData} {b : Bool}
theorem ex_kind (h : Ex T Δ te (d r)) (a : Ans cells r b) : Ex T Δ (tIxU K te (tC (.int 0))) (d (kind b)) := by
  cases a with
  | laid D F => exact ex_ix0 (x := (("laid" : Str), layF cells D)) h
  | short A S => exact ex_ix0 (x := (("short" : Str), inOrder A)) h
/-- the list that is told, as data: it is equal to itself, and can be listed -/
theorem ex_told (a : Ans cells r b) : ∃ x : PyData, (∀ {Δ : List Sl} {te : TE}, Ex T Δ te (d r) → Ex T Δ (tIxU K te (tC (.int 1))) x) ∧ (∀ {Δ : List Sl} {te : TE}, Ex T Δ te x → Ex T Δ (tCB (rListV K) (tCons te tNil)) x) ∧ (∀ {Δ : List Sl} {ta tb : TE}, Ex T Δ ta x → Ex T Δ tb x → Ex T Δ (tOp (rEqD K) ta tb) (d true)) := by
  cases a with
  | laid D F => exact ⟨d (layF cells D), fun h => ex_ix1 (x := (("laid" : Str), layF cells D)) h, fun h => (exN_listV h).ex, fun h k => ex_eq (ex_eqG (x := layF cells D) (y := layF cells D) h k inferInstance inferInstance (by decide)) (by rw [decide_eq_true rfl])⟩
  | short A S => exact ⟨d (inOrder A), fun h => ex_ix1 (x := (("short" : Str), inOrder A)) h, fun h => (exN_listV h).ex, fun h k => ex_eq (ex_eqG (x := inOrder A) (y := inOrder A) h k inferInstance inferInstance (by decide)) (by rw [decide_eq_true rfl])⟩
theorem ans_shape (a : Ans cells r b) : ∃ (s : Str) (ys : List PyData), r = .tuple [d s, .list ys] := by
  cases a with
  | laid D F => exact ⟨"laid", _, rfl⟩
  | short A S => exact ⟨"short", _, rfl⟩
end
end Tf

/-! A laying that is handed in, in any order and either way round, is taken. -/
namespace Tf
open PySem PySem.Spec PyProof.Rows L2 Dt
def bothOf (xs : List Pc) : List Pt := xs.flatMap fun e => [e.1, e.2]
theorem piece_ok {K : PySem.W.Frag} {f : Fl} (fl : FlG K f) {e : Pc} (h1 : e.1 ∈ f.cells) (h2 : e.2 ∈ f.cells) (h3 : e.2 ∈ beside4 e.1) : pieceD f (d e) = true := by
  show (hasD f (d e.1) && (hasD f (d e.2) && decide (ptD (d e.2) ∈ besideOf f (ptD (d e.1))))) = true
  rw [hasD_pt, hasD_pt, fl.mem.mpr h1, fl.mem.mpr h2, ptD_of, ptD_of]
  exact decide_eq_true (List.mem_filter.mpr ⟨h3, fl.mem.mpr h2⟩)
theorem putPair_get {D : Dc Pt} {p q a : Pt} : (putPair D p q).get a = if a = q then some p else if a = p then some q else D.get a := put2
theorem go_ok {K : PySem.W.Frag} {f : Fl} (fl : FlG K f) : ∀ (xs : List Pc) (D0 : Dc Pt), (∀ e ∈ xs, e.1 ∈ f.cells ∧ e.2 ∈ f.cells ∧ e.2 ∈ beside4 e.1) → (bothOf xs).Nodup → (∀ a ∈ bothOf xs, D0.get a = none) → partGo f (xs.map d) D0 = some (xs.foldl (fun D e => putPair D e.1 e.2) D0)
  | [], D0, _, _, _ => rfl
  | e :: xs, D0, h, nd, hn => by
    obtain ⟨h1, h2, h3⟩ := h e List.mem_cons_self
    have nd' : (e.1 :: e.2 :: bothOf xs).Nodup := nd
    rw [List.nodup_cons, List.nodup_cons] at nd'
    obtain ⟨n1, n2, n3⟩ := nd'
    have g1 : D0.get e.1 = none := hn e.1 (by unfold bothOf; simp)
    have g2 : D0.get e.2 = none := hn e.2 (by unfold bothOf; simp)
    have st : partStep f D0 (d e) = some (putPair D0 e.1 e.2) := by
      unfold partStep
      rw [if_pos (piece_ok fl h1 h2 h3)]
      show (if (D0.get e.1).isSome = true ∨ (D0.get e.2).isSome = true then none else some (putPair D0 e.1 e.2)) = _
      rw [if_neg (by rw [g1, g2]; simp)]
    rw [List.map_cons, List.foldl_cons]
    show (match partStep f D0 (d e) with | none => none | some D' => partGo f (xs.map d) D') = _
    rw [st]
    refine go_ok fl xs _ (fun e' he => h e' (List.mem_cons_of_mem _ he)) n3 fun a ha => ?_
    rw [putPair_get, if_neg (fun z => n2 (by rw [← z]; exact ha)), if_neg (fun z => n1 (by rw [← z]; exact List.mem_cons_of_mem _ ha))]
    exact hn a (by unfold bothOf at ha ⊢; rw [List.flatMap_cons]; exact List.mem_append_right _ ha)
theorem fold_get : ∀ (xs : List Pc) (D0 : Dc Pt), (bothOf xs).Nodup → (∀ a, a ∉ bothOf xs → (xs.foldl (fun D e => putPair D e.1 e.2) D0).get a = D0.get a) ∧ ∀ e ∈ xs, (xs.foldl (fun D e => putPair D e.1 e.2) D0).get e.1 = some e.2 ∧ (xs.foldl (fun D e => putPair D e.1 e.2) D0).get e.2 = some e.1
  | [], D0, _ => ⟨fun _ _ => rfl, fun e he => by cases he⟩
  | e :: xs, D0, nd => by
    have nd' : (e.1 :: e.2 :: bothOf xs).Nodup := nd
    rw [List.nodup_cons, List.nodup_cons] at nd'
    obtain ⟨n1, n2, n3⟩ := nd'
    obtain ⟨k1, k2⟩ := fold_get xs (putPair D0 e.1 e.2) n3
    have ne : e.1 ≠ e.2 := fun z => n1 (by rw [z]; exact List.mem_cons_self)
    rw [List.foldl_cons]
    refine ⟨fun a ha => ?_, fun e' he => ?_⟩
    · have ha' : a ∉ e.1 :: e.2 :: bothOf xs := ha
      rw [List.mem_cons, List.mem_cons, not_or, not_or] at ha'
      rw [k1 a ha'.2.2, putPair_get, if_neg ha'.2.1, if_neg ha'.1]
    · rcases List.mem_cons.mp he with z | z
      · subst z
        refine ⟨?_, ?_⟩
        · rw [k1 _ (fun z => n1 (List.mem_cons_of_mem _ z)), putPair_get, if_neg ne, if_pos rfl]
        · rw [k1 _ n2, putPair_get, if_pos rfl]
      · exact k2 e' z
/-- pieces of a laying, each once, either way round -/
structure Hand (cells : List Pt) (D : Dc Pt) (xs : List Pc) : Prop where
  each : ∀ e ∈ xs, D.get e.1 = some e.2
  nd : (bothOf xs).Nodup
  all : ∀ c ∈ cells, c ∈ bothOf xs
theorem mem_both {xs : List Pc} {a : Pt} (h : a ∈ bothOf xs) : ∃ e ∈ xs, a = e.1 ∨ a = e.2 := by
  obtain ⟨e, he, z⟩ := List.mem_flatMap.mp h
  exact ⟨e, he, by simpa using z⟩
theorem hand_taken {K : PySem.W.Frag} {f : Fl} (fl : FlG K f) {D : Dc Pt} (F : Full f.cells D) {xs : List Pc} (h : Hand f.cells D xs) : ∃ D', partsD f (xs.map d) = some D' ∧ ∀ a, D'.get a = D.get a := by
  have g := go_ok fl xs ⟨[]⟩ (fun e he => by
    have x := h.each e he
    exact ⟨F.half.mem _ _ x, F.half.mem _ _ (F.half.sym _ _ x), F.half.bes _ _ x⟩) h.nd fun _ _ => rfl
  obtain ⟨k1, k2⟩ := fold_get xs ⟨[]⟩ h.nd
  generalize xs.foldl (fun D e => putPair D e.1 e.2) ⟨[]⟩ = D' at g k1 k2
  have same : ∀ a, D'.get a = D.get a := fun a => by
    by_cases m : a ∈ bothOf xs
    · obtain ⟨e, he, z⟩ := mem_both m
      have x := h.each e he
      rcases z with rfl | rfl
      · rw [(k2 e he).1, x]
      · rw [(k2 e he).2, F.half.sym _ _ x]
    · rw [k1 a m]
      cases e : D.get a with
      | none => rfl
      | some b => exact absurd (h.all a (F.half.mem a b e)) m
  refine ⟨D', ?_, same⟩
  unfold partsD
  simp only [g]
  have := sub_length fl.nd fun c hc => (Dc.mem_keys (D := D')).mpr ⟨oth D c, by rw [same]; exact F.get hc⟩
  rw [Dc.keys_length] at this
  rw [if_neg (by omega)]
theorem lay_same {cells : List Pt} {D D' : Dc Pt} (h : ∀ a, D'.get a = D.get a) : layF cells D' = layF cells D := by
  have e : oth D' = oth D := by
    funext c
    unfold oth
    rw [h]
  unfold layF
  rw [e]
theorem both_lay {cells : List Pt} {D : Dc Pt} (F : Full cells D) (so : cells.Pairwise ltYX) (sm : cells.length ≤ 36) : List.Perm (bothOf (layF cells D)) cells := by
  have h := (laid_of F so sm).cov
  have p : List.Perm (inOrder (bothOf (layF cells D))) (bothOf (layF cells D)) := List.mergeSort_perm _ _
  have h' : inOrder (bothOf (layF cells D)) = cells := h
  rw [h'] at p
  exact p.symm
theorem both_app (a b : List Pc) : bothOf (a ++ b) = bothOf a ++ bothOf b := by
  unfold bothOf
  rw [List.flatMap_append]
theorem both_step (n : Int) (a : List Pc) (e : Int × Pc) : List.Perm (bothOf (handStep n a e)) (bothOf a ++ bothOf [e.2]) := by
  unfold handStep
  generalize (mixed n e.1 / 14 % ((a.length : Int) + 1)).toNat = k
  have t : List.Perm (bothOf [if mixed n e.1 / 7 % 2 = 0 then e.2 else (e.2.2, e.2.1)]) (bothOf [e.2]) := by
    by_cases z : mixed n e.1 / 7 % 2 = 0
    · rw [if_pos z]
    · rw [if_neg z]
      exact List.Perm.swap _ _ _
  rw [both_app, both_app]
  have u : bothOf a = bothOf (a.take k) ++ bothOf (a.drop k) := by rw [← both_app, List.take_append_drop]
  rw [u]
  refine (List.Perm.append_right _ (List.Perm.append_left _ t)).trans ?_
  rw [List.append_assoc, List.append_assoc]
  exact List.Perm.append_left _ List.perm_append_comm
theorem hand_fold {D : Dc Pt} {n : Int} (sym : ∀ a b, D.get a = some b → D.get b = some a) : ∀ (l : List (Int × Pc)) (a : List Pc), (∀ e ∈ l, D.get e.2.1 = some e.2.2) → (∀ x ∈ a, D.get x.1 = some x.2) → (∀ x ∈ l.foldl (handStep n) a, D.get x.1 = some x.2) ∧ List.Perm (bothOf (l.foldl (handStep n) a)) (bothOf a ++ bothOf (l.map (·.2)))
  | [], a, _, h => ⟨h, by simp [bothOf]⟩
  | e :: l, a, hl, h => by
    have he := hl e List.mem_cons_self
    obtain ⟨k1, k2⟩ := hand_fold sym l (handStep n a e) (fun e' h' => hl e' (List.mem_cons_of_mem _ h')) fun x hx => by
      unfold handStep at hx
      rcases List.mem_append.mp hx with z | z
      · rcases List.mem_append.mp z with z | z
        · exact h x (List.mem_of_mem_take z)
        · rw [List.mem_singleton.mp z]
          split
          · exact he
          · exact sym _ _ he
      · exact h x (List.mem_of_mem_drop z)
    rw [List.foldl_cons]
    refine ⟨k1, k2.trans ?_⟩
    have s := both_step n a e
    refine (List.Perm.append_right _ s).trans ?_
    rw [List.append_assoc, ← both_app]
    exact List.Perm.refl _
theorem enumI_snd {α : Type} (xs : List α) : (enumI xs).map (·.2) = xs := by
  unfold enumI
  simp [List.map_map, Function.comp_def]
theorem hand_of {cells : List Pt} {D : Dc Pt} (L : Lay cells D) (so : cells.Pairwise ltYX) (n : Int) : Hand cells D (handedP D n) := by
  have told := told_lay L so
  have get : ∀ e ∈ enumI (toldP D), D.get e.2.1 = some e.2.2 := fun e he => by
    have m : e.2 ∈ toldP D := by
      rw [← enumI_snd (toldP D)]
      exact List.mem_map.mpr ⟨e, he, rfl⟩
    rw [told] at m
    obtain ⟨c, hc, z⟩ := List.mem_map.mp m
    rw [← z]
    exact L.full.get (List.mem_filter.mp hc).1
  obtain ⟨h1, h2⟩ := hand_fold (n := n) L.full.half.sym (enumI (toldP D)) [] get fun x hx => by cases hx
  rw [enumI_snd] at h2
  have h3 : List.Perm (bothOf (toldP D)) cells := by
    rw [told]
    exact both_lay L.full so L.sm
  have p : List.Perm (bothOf (handedP D n)) cells := h2.trans h3
  exact ⟨h1, p.nodup_iff.mpr (nodup_lt so), fun c hc => p.mem_iff.mpr hc⟩
end Tf

/-! The program's turns. -/
namespace Tf
open PySem PySem.Spec PyProof.Rows L2 Dt
/-! ### corners -/
theorem mem_corners4 {p c : Pt} : p ∈ corners4 c ↔ (c = (p.1, p.2) ∨ c = (p.1 - 1, p.2) ∨ c = (p.1, p.2 - 1) ∨ c = (p.1 - 1, p.2 - 1)) := by
  obtain ⟨x, y⟩ := p
  obtain ⟨u, v⟩ := c
  unfold corners4
  simp only [List.mem_cons, List.not_mem_nil, or_false, Prod.mk.injEq]
  omega
theorem mem_cornersD {p : Pt} : ∀ (cells : List Pt) (D : Dc Bool), p ∈ (cells.foldl (fun a x => (corners4 x).foldl (fun a y => a.put y true) a) D).keys ↔ p ∈ D.keys ∨ ∃ c ∈ cells, p ∈ corners4 c
  | [], D => ⟨fun h => .inl h, fun h => h.elim id fun ⟨c, hc, _⟩ => by cases hc⟩
  | a :: cells, D => by
    rw [List.foldl_cons, mem_cornersD cells]
    have k := keys_fold (fun x : Pt => x) (fun _ => true) (corners4 a) D p
    constructor
    · rintro (h | ⟨c, hc, h⟩)
      · rcases k.mp h with z | ⟨x, hx, rfl⟩
        · exact .inl z
        · exact .inr ⟨a, List.mem_cons_self, hx⟩
      · exact .inr ⟨c, List.mem_cons_of_mem _ hc, h⟩
    · rintro (h | ⟨c, hc, h⟩)
      · exact .inl (k.mpr (.inl h))
      · rcases List.mem_cons.mp hc with rfl | hc
        · exact .inl (k.mpr (.inr ⟨p, h, rfl⟩))
        · exact .inr ⟨c, hc, h⟩
theorem mem_cornersOf {f : Fl} {p : Pt} : p ∈ cornersOf f ↔ Cor f.cells p := by
  unfold cornersOf inOrder
  rw [List.mem_mergeSort]
  unfold cornersD
  rw [mem_cornersD]
  unfold Cor
  constructor
  · rintro (h | ⟨c, hc, h⟩)
    · cases h
    · rcases mem_corners4.mp h with rfl | rfl | rfl | rfl
      · exact .inr (.inr (.inr hc))
      · exact .inr (.inr (.inl hc))
      · exact .inr (.inl hc)
      · exact .inl hc
  · rintro (h | h | h | h)
    · exact .inr ⟨_, h, mem_corners4.mpr (.inr (.inr (.inr rfl)))⟩
    · exact .inr ⟨_, h, mem_corners4.mpr (.inr (.inr (.inl rfl)))⟩
    · exact .inr ⟨_, h, mem_corners4.mpr (.inr (.inl rfl))⟩
    · exact .inr ⟨_, h, mem_corners4.mpr (.inl rfl)⟩
theorem cornersD_nk : ∀ (cells : List Pt) (D : Dc Bool), D.keys.Nodup → (cells.foldl (fun a x => (corners4 x).foldl (fun a y => a.put y true) a) D).keys.Nodup
  | [], D, h => h
  | a :: cells, D, h => by
    rw [List.foldl_cons]
    exact cornersD_nk cells _ (nodup_fold (fun x : Pt => x) (fun _ => true) (corners4 a) D h)
theorem cornersOf_so (f : Fl) : (cornersOf f).Pairwise ltYX := inOrder_sorted (cornersD_nk _ _ (by simp [Dc.keys]))
theorem so_ext {a b : List Pt} (ha : a.Pairwise ltYX) (hb : b.Pairwise ltYX) (h : ∀ p, p ∈ a ↔ p ∈ b) : a = b := by
  refine List.Perm.eq_of_pairwise (le := ltYX) (fun p q _ _ h1 h2 => ?_) ha hb ((List.perm_ext_iff_of_nodup (nodup_lt ha) (nodup_lt hb)).mpr h)
  unfold ltYX at h1 h2
  omega
theorem isInner_iff {K : PySem.W.Frag} {f : Fl} (fl : FlG K f) {c : Pt} : isInner f c = true ↔ Inner f.cells c := by
  unfold isInner round4 Inner
  simp only [List.map_cons, List.map_nil, List.all_cons, List.all_nil, id, Bool.and_eq_true, fl.mem, and_true]
theorem mem_innerOf {K : PySem.W.Frag} {f : Fl} (fl : FlG K f) {c : Pt} : c ∈ innerOf f ↔ Inner f.cells c := by
  unfold innerOf
  rw [List.mem_filter, mem_cornersOf, isInner_iff fl]
  exact ⟨fun h => h.2, fun h => ⟨.inr (.inr (.inr h.2.2.2)), h⟩⟩
/-! ### where there can be a turn -/
def turnsB (f : Fl) (D : Dc Pt) : List Pt := (innerOf f).filter fun c => ((round4 c).map fun a => decide (oth D a ∈ round4 c)).all id
theorem mem_turnsB {K : PySem.W.Frag} {f : Fl} (fl : FlG K f) {D : Dc Pt} (F : Full f.cells D) {c : Pt} : c ∈ turnsB f D ↔ (turnP D c).isSome = true := by
  unfold turnsB
  rw [List.mem_filter, mem_innerOf fl]
  obtain ⟨x, y⟩ := c
  constructor
  · rintro ⟨⟨i1, i2, i3, i4⟩, h⟩
    unfold round4 at h
    simp only [List.map_cons, List.map_nil, List.all_cons, List.all_nil, id, Bool.and_eq_true, and_true, decide_eq_true_eq] at h i1 i2 i3 i4
    obtain ⟨h1, h2, h3, h4⟩ := h
    have g1 := F.get i1
    have g2 := F.get i2
    have g3 := F.get i3
    have g4 := F.get i4
    have b1 := F.bes i1
    have b3 := F.bes i3
    have b4 := F.bes i4
    unfold beside4 at b1 b3 b4
    have key : (oth D (x - 1, y - 1) = (x, y - 1) ∧ oth D (x - 1, y) = (x, y)) ∨ (oth D (x - 1, y - 1) = (x - 1, y) ∧ oth D (x, y - 1) = (x, y)) := by
      have e1 : oth D (x - 1, y - 1) = (x, y - 1) ∨ oth D (x - 1, y - 1) = (x - 1, y) := by
        generalize oth D (x - 1, y - 1) = o at h1 b1
        obtain ⟨u, v⟩ := o
        simp only [List.mem_cons, List.not_mem_nil, or_false, Prod.mk.injEq] at h1 b1 ⊢
        omega
      rcases e1 with e1 | e1
      · refine .inl ⟨e1, ?_⟩
        have k := F.back i1
        rw [e1] at k
        have n3 : oth D (x - 1, y) ≠ (x - 1, y - 1) := fun z => by
          have k3 := F.back i3
          rw [z, e1] at k3
          injection k3 with k3 k4
          omega
        generalize oth D (x - 1, y) = o at h3 b3 n3
        obtain ⟨u, v⟩ := o
        simp only [List.mem_cons, List.not_mem_nil, or_false, Prod.mk.injEq, ne_eq] at h3 b3 n3 ⊢
        omega
      · refine .inr ⟨e1, ?_⟩
        have n2 : oth D (x, y - 1) ≠ (x - 1, y - 1) := fun z => by
          have k3 := F.back i2
          rw [z, e1] at k3
          injection k3 with k3 k4
          omega
        have b2 := F.bes i2
        unfold beside4 at b2
        generalize oth D (x, y - 1) = o at h2 b2 n2
        obtain ⟨u, v⟩ := o
        simp only [List.mem_cons, List.not_mem_nil, or_false, Prod.mk.injEq, ne_eq] at h2 b2 n2 ⊢
        omega
    unfold turnP
    simp only
    rcases key with ⟨k1, k2⟩ | ⟨k1, k2⟩
    · rw [if_pos ⟨by rw [g1, k1], by rw [g3, k2]⟩]
      rfl
    · split
      · rfl
      · rw [if_pos ⟨by rw [g1, k1], by rw [g2, k2]⟩]
        rfl
  · intro h
    obtain ⟨D', t⟩ := Option.isSome_iff_exists.mp h
    obtain ⟨⟨s, T⟩, I, _⟩ := turn_facts F t
    refine ⟨I, ?_⟩
    unfold round4
    simp only [List.map_cons, List.map_nil, List.all_cons, List.all_nil, id, Bool.and_eq_true, and_true, decide_eq_true_eq]
    cases T with
    | flat a b c e a' b' c' e' => rw [oth_of a, oth_of b, oth_of c, oth_of e]; simp
    | up a b c e a' b' c' e' => rw [oth_of a, oth_of b, oth_of c, oth_of e]; simp
theorem turnsB_so {f : Fl} {D : Dc Pt} : (turnsB f D).Pairwise ltYX := ((cornersOf_so f).filter _).filter _
theorem turnP_some {D D' : Dc Pt} {c : Pt} (h : ∀ a, D'.get a = D.get a) : (turnP D' c).isSome = (turnP D c).isSome := by
  unfold turnP
  rw [h, h, h]
  by_cases z : D.get (c.1 - 1, c.2 - 1) = some (c.1, c.2 - 1) ∧ D.get (c.1 - 1, c.2) = some (c.1, c.2)
  · rw [if_pos z, if_pos z]; rfl
  · rw [if_neg z, if_neg z]
    by_cases w : D.get (c.1 - 1, c.2 - 1) = some (c.1 - 1, c.2) ∧ D.get (c.1, c.2 - 1) = some (c.1, c.2)
    · rw [if_pos w, if_pos w]; rfl
    · rw [if_neg w, if_neg w]
def lawTurns (D : Dc Pt) : List Pt := (inOrder (lawNums D).keys).filter fun c => (turnP D c).isSome
theorem mem_keys_ht {cells : List Pt} {h : Pt → Int} {s : Pt} {N : Dc Int} (H : HtOf cells h s N) {p : Pt} : p ∈ N.keys ↔ Cor cells p := by
  rw [Dc.mem_keys]
  exact ⟨fun ⟨v, e⟩ => H.cor p v e, fun c => ⟨_, H.val p c⟩⟩
theorem turn_cor {cells : List Pt} {D : Dc Pt} {c : Pt} (F : Full cells D) (h : (turnP D c).isSome = true) : Inner cells c ∧ Cor cells c := by
  obtain ⟨D', t⟩ := Option.isSome_iff_exists.mp h
  obtain ⟨x, y⟩ := c
  have I := (turn_facts F t).2.1
  exact ⟨I, .inr (.inr (.inr I.2.2.2))⟩
theorem mem_lawTurns {cells : List Pt} {D : Dc Pt} (L : LayH cells D) {c : Pt} : c ∈ lawTurns D ↔ (turnP D c).isSome = true := by
  obtain ⟨h, P⟩ := L.pot
  have H := L.nums P
  unfold lawTurns inOrder
  rw [List.mem_filter, List.mem_mergeSort, mem_keys_ht H]
  exact ⟨fun z => z.2, fun z => ⟨(turn_cor L.lay.full z).2, z⟩⟩
theorem lawTurns_so {cells : List Pt} {D : Dc Pt} (L : LayH cells D) : (lawTurns D).Pairwise ltYX := by
  obtain ⟨h, P⟩ := L.pot
  exact (inOrder_sorted (L.nums P).nk).filter _
theorem turns_law {K : PySem.W.Frag} {f : Fl} (fl : FlG K f) {D D' : Dc Pt} (L : LayH f.cells D) (h : ∀ a, D'.get a = D.get a) (F' : Full f.cells D') : turnsB f D' = lawTurns D :=
  so_ext turnsB_so (lawTurns_so L) fun p => by rw [mem_turnsB fl F', mem_lawTurns L, turnP_some h]
abbrev sp__law_turns (K : PySem.W.Frag) : Sp := PuN (tabs K) (R1 lawTurns fun D => ∃ cells, LayH cells D)
abbrev sp_turns_by (K : PySem.W.Frag) : Sp := PuN (tabs K) (R2' turnsB fun f D => FlG K f ∧ Full f.cells D)
/-! ### what is handed in -/
def partsX (f : Fl) (x : PyData) : Option (Dc Pt) := match x with
  | .list xs => partsD f xs
  | _ => none
theorem partsR_X (f : Fl) (x : PyData) : partsR f x = match partsX f x with | some D => .ok (d D) | none => .error "BadLaying" := by
  unfold partsR partsX
  cases x <;> rfl
theorem partsX_ok {f : Fl} {x : PyData} {D : Dc Pt} (h : partsX f x = some D) : partsR f x = .ok (d D) := by rw [partsR_X, h]
theorem partsX_bad {f : Fl} {x : PyData} (h : partsX f x = none) : partsR f x = .error "BadLaying" := by rw [partsR_X, h]
theorem partsX_full {K : PySem.W.Frag} {f : Fl} (fl : FlG K f) {x : PyData} {D : Dc Pt} (h : partsX f x = some D) : Full f.cells D := by
  unfold partsX at h
  cases x <;> first | exact parts_full fl h | cases h
theorem partsX_nk {K : PySem.W.Frag} {f : Fl} (fl : FlG K f) {x : PyData} {D : Dc Pt} (h : partsX f x = some D) : D.keys.Nodup := by
  unfold partsX at h
  cases x with
  | list xs =>
    simp only at h
    unfold partsD at h
    split at h
    · cases h
    · rename_i D1 e
      split at h
      · cases h
      · cases h
        exact (part_go fl ⟨half_none _, List.nodup_nil⟩ e).nk
  | _ => cases h
def turnsR (f : Fl) (x : PyData) : Except Str PyData := match partsX f x with
  | some D => .ok (d (turnsB f D))
  | none => .error "BadLaying"
abbrev sp_turns_of (K : PySem.W.Frag) : Sp := Px (tabs K) K true fun es r => ∃ (f : Fl) (x : PyData), es = [d f, x] ∧ FlG K f ∧ okPieces x ∧ r = turnsR f x
theorem lenTn {K : PySem.W.Frag} {vs : List V} {H : Hp} {Q : VK} {E : XK} (h : sp_turns_of K vs H Q E) : vs.length = 2 := len_px (N := 2) (fun es r ⟨f, x, e, _⟩ => by rw [e]; rfl) h
def afterB (D : Dc Pt) (c : Pt) : List Pc := if oth D (c.1 - 1, c.2 - 1) = (c.1, c.2 - 1) then [((c.1 - 1, c.2 - 1), (c.1 - 1, c.2)), ((c.1, c.2 - 1), (c.1, c.2))] else [((c.1 - 1, c.2 - 1), (c.1, c.2 - 1)), ((c.1 - 1, c.2), (c.1, c.2))]
abbrev sp_pieces_after (K : PySem.W.Frag) : Sp := PuN (tabs K) (R2' afterB fun D c => (D.get (c.1 - 1, c.2 - 1)).isSome = true)
def turnedB (D : Dc Pt) (c : Pt) : Dc Pt := (afterB D c).foldl (fun D e => putPair D e.1 e.2) D
theorem turnedB_get {cells : List Pt} {D D0 : Dc Pt} {x y : Int} (F : Full cells D) (h : ∀ a, D.get a = D0.get a) (t : (turnP D0 (x, y)).isSome = true) : ∀ a, (turnedB D (x, y)).get a = (turned1 D0 (x, y)).get a := by
  intro a
  have tD : (turnP D (x, y)).isSome = true := by rw [turnP_some h]; exact t
  unfold turned1 turnP
  unfold turnP at t tD
  simp only at t tD ⊢
  by_cases z : D0.get (x - 1, y - 1) = some (x, y - 1) ∧ D0.get (x - 1, y) = some (x, y)
  · rw [if_pos z]
    have e : oth D (x - 1, y - 1) = (x, y - 1) := oth_of (by rw [h]; exact z.1)
    unfold turnedB afterB
    simp only
    rw [if_pos e]
    show (turnB D _ _ _ _).get a = (turnB D0 _ _ _ _).get a
    rw [turnB_get, turnB_get, h]
  · rw [if_neg z] at t ⊢
    by_cases w : D0.get (x - 1, y - 1) = some (x - 1, y) ∧ D0.get (x, y - 1) = some (x, y)
    · rw [if_pos w]
      have e : ¬ oth D (x - 1, y - 1) = (x, y - 1) := fun q => by
        have := oth_of (by rw [h]; exact w.1)
        rw [this] at q
        injection q with q1 q2
        omega
      unfold turnedB afterB
      simp only
      rw [if_neg e]
      show (turnB D _ _ _ _).get a = (turnB D0 _ _ _ _).get a
      rw [turnB_get, turnB_get, h]
    · rw [if_neg w] at t
      cases t
theorem full_same {cells : List Pt} {D D' : Dc Pt} (F : Full cells D) (h : ∀ a, D'.get a = D.get a) : Full cells D' := by
  refine ⟨⟨fun a b e => ?_, fun a b e => ?_, fun a b e => ?_⟩, fun c hc => ?_⟩
  · rw [h] at e ⊢; exact F.half.sym a b e
  · rw [h] at e; exact F.half.bes a b e
  · rw [h] at e; exact F.half.mem a b e
  · rw [h]; exact F.all c hc
theorem turnedB_full {cells : List Pt} {D : Dc Pt} {c : Pt} (F : Full cells D) (t : (turnP D c).isSome = true) : Full cells (turnedB D c) := by
  obtain ⟨x, y⟩ := c
  exact full_same (turned1_full (c := (x, y)) F) (turnedB_get F (fun _ => rfl) t)
def turnedR (f : Fl) (x y : PyData) : Except Str PyData := match partsX f x with
  | some D => if isPlaceD y = true ∧ ptD y ∈ turnsB f D then .ok (d (layF f.cells (turnedB D (ptD y)))) else .error "NoTurn"
  | none => .error "BadLaying"
theorem turnedR_none {f : Fl} {x y : PyData} (h : partsX f x = none) : turnedR f x y = .error "BadLaying" := by unfold turnedR; rw [h]
theorem turnedR_ok {f : Fl} {x y : PyData} {D : Dc Pt} (h : partsX f x = some D) (z : isPlaceD y = true ∧ ptD y ∈ turnsB f D) : turnedR f x y = .ok (d (layF f.cells (turnedB D (ptD y)))) := by unfold turnedR; rw [h]; exact if_pos z
theorem turnedR_no {f : Fl} {x y : PyData} {D : Dc Pt} (h : partsX f x = some D) (z : ¬ (isPlaceD y = true ∧ ptD y ∈ turnsB f D)) : turnedR f x y = .error "NoTurn" := by unfold turnedR; rw [h]; exact if_neg z
abbrev sp_turned_at (K : PySem.W.Frag) : Sp := Px (tabs K) K true fun es r => ∃ (f : Fl) (x y : PyData), es = [d f, x, y] ∧ FlG K f ∧ okPieces x ∧ okThing y ∧ r = turnedR f x y
theorem lenTa {K : PySem.W.Frag} {vs : List V} {H : Hp} {Q : VK} {E : XK} (h : sp_turned_at K vs H Q E) : vs.length = 3 := len_px (N := 3) (fun es r ⟨f, x, y, e, _⟩ => by rw [e]; rfl) h
end Tf

/-! Rules: a told list that is emptied; answers of defs that raise, as new ones; abs. -/
namespace Tf
open PySem PySem.Spec PyProof.Rows L2 Dt
section
variable {T : List (Addr × Str)} {α β γ ν : Type} {F0 H0 F H F' H' G : Hp} {σ σ' : St} {Γ Γ' Δ : List Sl} {te ta tb tk tv : TE} {tr : TA} {tt c : TT} {t u tbd : TS} {g : TG} {K : PySem.W.Frag} {wi : TI} {E E' : XK} {e : PyData} {es : List PyData} {D : Ends} {R R' : Out → Prop} {i j : Nat} {p : Addr} {n m : Bool}
/-- what no slot holds is written -/
theorem Ok.wrOut {u x : HO} (o : Ok T F0 H0 F H σ Γ) (fp : F p = none) (n0 : H0 p = none) (a : H p = some u) (nt : notTbl u) (nx : ∀ φ, u ≠ .ext φ) (nw : ∀ (j : Nat) (e' : PyData), Γ[j]? ≠ some (Sl.ow p e')) : Ok T F0 H0 F (upd H p x) σ Γ :=
  ⟨o.st.mut fp n0 a nt nx, o.len, o.sh, fun j q e' z => by
    obtain ⟨k1, k2, k3, k4⟩ := o.ow j q e' z
    have nq : q ≠ p := fun y => nw j e' (by rw [← y]; exact z)
    exact ⟨k1, k2, k3, k4.at_ fun y e _ => by rw [upd_ne nq]; exact e⟩, o.raw, o.sc, o.ne⟩
theorem r_clearN (h : ExN T (see Γ) te (.list es)) (im : immAll es = true) (k : R (.nx Γ)) : Run T K E Γ (tDrop (tBM0 K "list" rClear te)) R := fun F0 H0 F H σ D o f => h σ _ o.toSee H o.seeSub o.st.tab _ fun v G H' s0 r0 n => by
  have s := o.unsee s0
  cases r0 with
  | @lst p us _ a r =>
    have hp := n p rfl
    have fp := o.st.sub.free hp
    have s' : Step T F (erase (hideF Γ G) p) H H' := ⟨erase_ff s.ff fp, erase_sub s.sub, s.ext, fun b z1 z2 => by
      by_cases y : b = p
      · rw [y, erase_same]
      · rw [erase_ne y]
        exact s.new b z1 z2, s.tab⟩
    have a' := (s0.sub _ _ a).1
    refine ⟨Or.inl ⟨rfl, us, SqL.of a'⟩, p, us, rfl, rfl, a', ?_⟩
    exact f.nx _ _ (erase (hideF Γ G) p) _ k s'.ff ((o.step s').wrOut erase_same (o.st.ext.live p hp) a' nt_lst (fun φ z => nomatch z) (o.noOw hp))
theorem exN_pxW {P : List PyData → Except Str PyData → Prop} (h : Ea T Δ tr es) (r : P es (.ok e)) : ExN T Δ (tCall (Px T K true P) [] E' tr) e := fun σ F s H su t Q q => h σ F s H su t _ fun vs F1 H1 s1 rv => ⟨F1, es, .ok e, s1.sub, s1.tab, by rw [List.append_nil]; exact rv, r, fun v F2 H2 s2 r2 z => q v F2 H2 (s1.trans s2) r2 fun p y => s1.ext.live p (z rfl p y)⟩
theorem ex_abs {i : Int} (h : Ex T Δ te (d i)) : Ex T Δ (tCB (fun xs H Q => ∃ i, xs = [V.int i] ∧ Q (.int (if i < 0 then -i else i)) H) (tCons te tNil)) (d (if i < 0 then -i else i)) := .of fun σ F s => ev_cb (ea_cons (h.at s) ea_nil) fun vs F1 H1 Q _ s t r q => by
  obtain ⟨v, rfl, r1⟩ := rvl1 r
  cases rv_int r1
  exact ⟨i, rfl, q _ F1 H1 (.refl s t) (.int _)⟩
theorem exN_call2N {_ : Dt α} {_ : Dt β} {_ : Dt γ} {f : α → β → γ} {pre : α → β → Prop} {x : α} {y : β} {X : XK} (h1 : Ex T Δ ta (d x)) (h2 : Ex T Δ tb (d y)) (hp : pre x y) : ExN T Δ (tCall (PuN T (R2' f pre)) [] X (tCons ta (tCons tb tNil))) (d (f x y)) := exN_call2 h1 h2 hp
end
theorem foldl_pick {α : Type} (p : α → Bool) : ∀ (l a : List α), l.foldl (fun a x => if p x = true then a ++ [x] else a) a = a ++ l.filter p
  | [], a => by simp
  | x :: l, a => by
    rw [List.foldl_cons, foldl_pick p l]
    by_cases h : p x = true
    · rw [if_pos h, List.filter_cons_of_pos h, List.append_assoc]; rfl
    · rw [if_neg h, List.filter_cons_of_neg h]
end Tf
namespace Tf
open PySem PySem.Spec PyProof.Rows L2 Dt
def turnQ (D : Dc Pt) (c : Pt) : Bool := ((round4 c).map fun a => decide (oth D a ∈ round4 c)).all id
theorem inner_len {K : PySem.W.Frag} {f : Fl} (fl : FlG K f) : (innerOf f).length ≤ 144 := by
  have nd : (innerOf f).Nodup := nodup_lt ((cornersOf_so f).filter _)
  have := sub_length (m := corL f.cells) nd fun c hc => cor_fin c (by
    have I := (mem_innerOf fl).mp hc
    exact .inr (.inr (.inr I.2.2.2)))
  have := corL_len fl.sm
  omega
def askedTurn (f : Fl) (x y : PyData) : PyData := match turnedR f x y with
  | .ok e => .list [e, .bool true]
  | .error c => .list [.none, .bool (decide (markNames[7]? = some c))]
end Tf
namespace Tf
open PySem PySem.Spec PyProof.Rows L2 Dt
theorem pg_lstK {X : Cx} {pos : Pos} {es : List Expr} {k n : Nat} {gs : TGs} (K : PySem.W.Frag) (hc : X.calm = true) (h : PGs X es gs) (hn : (assignEach es X.env).length = n := by rfl) (hst : (assignEach es X.env).findIdx? (·.1) = none := by rfl) (hK : X.K = K := by rfl) : PG X (.Tuple es k pos) (gLst K n gs) := hK ▸ pg_lst hc h hn hst
theorem bd_lst {K : PySem.W.Frag} {n : Nat} {gs : TGs} {es : List PyData} {bs : List (Nat × PyData)} (h : BdS gs es bs) (hn : es.length = n := by rfl) : Bd (gLst K n gs) (.list es) bs := fun F v r => by
  cases r with
  | lst a r =>
    obtain ⟨ws, h1, h2⟩ := h F _ r
    exact ⟨ws, h1, fun H σ Q s q => ⟨_, _, rfl, SqL.of (s _ _ a).1, by rw [r.length]; exact hn, h2 H σ Q s q⟩⟩
end Tf
namespace Tf
open PySem PySem.Spec PyProof.Rows L2 Dt
theorem nums_len {cells : List Pt} {D : Dc Pt} (L : LayH cells D) : (lawNums D).keys.length ≤ 144 := by
  obtain ⟨h, P⟩ := L.pot
  have H := L.nums P
  have := sub_length (m := corL cells) H.nk fun c hc => cor_fin c ((mem_keys_ht H).mp hc)
  have := corL_len L.lay.sm
  omega
def gN (N : Dc Int) (p : Pt) : Int := (N.get p).getD default
theorem gN_of {N : Dc Int} {p : Pt} {v : Int} (h : N.get p = some v) : gN N p = v := by unfold gN; rw [h]; rfl
theorem get_gN {N : Dc Int} {p : Pt} (h : (N.get p).isSome = true) : N.get p = some (gN N p) := by
  obtain ⟨v, hv⟩ := Option.isSome_iff_exists.mp h
  rw [gN_of hv, hv]
theorem LayH.isN {cells : List Pt} {D : Dc Pt} (L : LayH cells D) {p : Pt} (h : Cor cells p) : ((lawNums D).get p).isSome = true := by
  obtain ⟨k, P⟩ := L.pot
  rw [(L.nums P).val p h]
  rfl
theorem LayH.memN {cells : List Pt} {D : Dc Pt} (L : LayH cells D) {p : Pt} : p ∈ (lawNums D).keys ↔ Cor cells p := by
  obtain ⟨k, P⟩ := L.pot
  exact mem_keys_ht (L.nums P)
def absI (i : Int) : Int := if i < 0 then -i else i
def changedL (D D' : Dc Pt) : List Pt := (lawNums D).keys.filter fun p => !decide (gN (lawNums D) p = gN (lawNums D') p)
def changesB (D D' : Dc Pt) (c : Pt) : Bool := decide (changedL D D' = [c]) && decide (absI (gN (lawNums D) c - gN (lawNums D') c) = 4)
abbrev sp__law_changes (K : PySem.W.Frag) : Sp := Pu (tabs K) (R3 changesB fun D D' c => ∃ cells, LayH cells D ∧ LayH cells D' ∧ Cor cells c)
end Tf

/-! What is asked, and may be refused: [answer, True] or [None, whether the error is the one]. -/
namespace Tf
open PySem PySem.Spec PyProof.Rows L2 Dt
/-- the suite: [None, _law_alone(error, k)] -/
def tsAsk (K : PySem.W.Frag) (i : Nat) (k : Int) : Addr → Value → Option Addr → TS := fun a cls dd => fun D σ H => ∃ c : Str, (c ∈ markNames ∧ c ≠ "FloorError" ∧ cls = .ref (He.ga K c) ∧ dd = none) ∧ tRet (tLst (tCons (tC .non) (tCons (tCall (sp_alone K (a, default) c) [] E0 (tCons (tVar i) (tCons (tC (.int k)) tNil))) tNil))) D σ H
def askedE (k : Nat) : Except Str PyData → PyData
  | .ok e => .list [e, .bool true]
  | .error c => .list [.none, .bool (decide (markNames[k]? = some c))]
section
variable {K : PySem.W.Frag} {E : XK} {Γ : List Sl} {tb : WX → TS} {ts : Addr → Value → Option Addr → TS} {i n : Nat} {r : Except Str PyData}
theorem ask_hand {k : Nat} {c : Str} {a : Addr} (hc : c ∈ markNames ∧ c ≠ "FloorError") (hk : k ≤ 8) (hi : i < n) : Run (tabs K) K E ((List.replicate n Sl.no).set i (.raw (.ref a))) (tsAsk K i k a (.ref (He.ga K c)) none) (goneR i (resR false (.ok (askedE k (.error c))))) := by
  refine r_some c ⟨hc.1, hc.2, rfl, rfl⟩ ?_
  refine r_ret (es_hid (ex_lstX (es := [.none, .bool (decide (markNames[k]? = some c))]) (ea_cons' ex_none (ea_cons' (ex_eq (ex_alone (k := (k : Int)) ?_ ex_int ⟨by omega, by omega⟩) ?_) ea_nil')))) ⟨rfl, fun z => nomatch z⟩
  · unfold hid
    rw [List.getElem?_map, List.getElem?_set_self (by simpa using hi)]
    rfl
  · rw [Int.toNat_natCast]
    rfl
/-- the whole try -/
theorem run_ask {k : Nat} (hn : Γ.length = n) (hk : k ≤ 8) (hi : i < n) (Ks : Kinds K) (ok : ∀ c, r = .error c → c ∈ markNames ∧ c ≠ "FloorError")
    (body : ∀ W : WX, Run (tabs K) K (fun cls dd H => ∀ σ : St, σ.length = n → W cls dd σ H) Γ (tb W) (tryR (fun c => r = .error c) (resR false (.ok (askedE k r))))) {Wout : WX} :
    Run (tabs K) K E Γ (fun D σ H => tb (L2.wAs K (.ref (He.ga K "FloorError")) i (tsAsk K i k) Wout D) D σ H) (resR false (.ok (askedE k r))) := by
  refine r_try_as (ts := tsAsk K i k) (fun c => r = .error c) hn body (fun c hc => Ks.exm c (ok c hc).1) fun c a hc => ?_
  subst hc
  exact ask_hand (ok c rfl) hk hi
end
end Tf

/-! Answers that are new through and through: whatever may be written of them is new. -/
namespace Tf
open PySem PySem.Spec PyProof.Rows L2 Dt
/-- of G what is new behind H, and tuples -/
noncomputable def nwF (H G : Hp) : Hp := fun a => @ite _ (H a = none ∨ ∃ us, G a = some (.tup us)) (Classical.propDecidable _) (G a) none
theorem nw_in {H G : Hp} {a : Addr} (h : H a = none ∨ ∃ us, G a = some (.tup us)) : nwF H G a = G a := by unfold nwF; exact if_pos h
theorem nw_out {H G : Hp} {a : Addr} (h : ¬ (H a = none ∨ ∃ us, G a = some (.tup us))) : nwF H G a = none := by unfold nwF; exact if_neg h
theorem nw_some {H G : Hp} {a : Addr} {u : HO} (h : nwF H G a = some u) : (H a = none ∨ ∃ us, G a = some (.tup us)) ∧ G a = some u := by
  by_cases z : H a = none ∨ ∃ us, G a = some (.tup us)
  · rw [nw_in z] at h; exact ⟨z, h⟩
  · rw [nw_out z] at h; cases h
theorem nw_same {H G : Hp} : Same (nwF H G) G := fun a u e => (nw_some e).2
theorem nw_le {H H' G G' : Hp} (hl : ∀ a, H' a = none → H a = none) (s : Same G G') : Same (nwF H' G) (nwF H G') := fun a u e => by
  obtain ⟨z, g⟩ := nw_some e
  have g' := s a u g
  rw [nw_in (z.imp (hl a) fun ⟨us, y⟩ => ⟨us, s _ _ y⟩), g']
theorem nw_tup {H G : Hp} : TupIn G (nwF H G) := fun a us e => by rw [nw_in (.inr ⟨us, e⟩)]; exact e
theorem nw_lst {H G : Hp} {p : Addr} {es : List PyData} (h : Rv (nwF H G) (.ref p) (.list es)) : H p = none ∧ ∃ us, G p = some (.lst us) ∧ RvL (nwF H G) us es := by
  cases h with
  | lst a r =>
    obtain ⟨z, g⟩ := nw_some a
    refine ⟨z.resolve_right fun ⟨us, y⟩ => ?_, _, g, r⟩
    rw [g] at y
    cases y
section
variable {T : List (Addr × Str)} {α β γ ν : Type} {F0 H0 F H F' H' G : Hp} {σ σ' : St} {Γ Γ' Δ : List Sl} {te ta tb tk tv : TE} {tr : TA} {tt c : TT} {t u tbd : TS} {g : TG} {K : PySem.W.Frag} {wi : TI} {E E' : XK} {e : PyData} {es : List PyData} {D : Ends} {R R' : Out → Prop} {P : PyData → Prop} {i j : Nat} {p : Addr} {n m : Bool}
def ExW (T : List (Addr × Str)) (Δ : List Sl) (te : TE) (e : PyData) : Prop := ∀ (σ : St) (F : Hp), Sh F σ Δ → ∀ H, Sub F H → LamX.Tabs T H → ∀ Q : VK, (∀ v F' H', Step T F F' H H' → Rv (nwF H F') v e → Q v H') → te σ H Q
def EaW (T : List (Addr × Str)) (Δ : List Sl) (ta : TA) (es : List PyData) : Prop := ∀ (σ : St) (F : Hp), Sh F σ Δ → ∀ H, Sub F H → LamX.Tabs T H → ∀ Q : List V → Hp → Prop, (∀ vs F' H', Step T F F' H H' → RvL (nwF H F') vs es → Q vs H') → ta σ H Q
theorem ExW.ex (h : ExW T Δ te e) : Ex T Δ te e := fun σ F s H su t Q q => h σ F s H su t Q fun v F' H' st r => q v F' H' st (r.mono nw_same)
theorem ExW.exN (h : ExW T Δ te (.list es)) : ExN T Δ te (.list es) := fun σ F s H su t Q q => h σ F s H su t Q fun v F' H' st r => q v F' H' st (r.mono nw_same) fun p e => by
  subst e
  exact (nw_lst r).1
theorem exW_imm (h : Ex T Δ te e) (i : imm e = true) : ExW T Δ te e := fun σ F s H su t Q q => h σ F s H su t Q fun v F' H' st r => q v F' H' st (r.imm nw_tup i)
theorem exW_list (h : ExN T Δ te (.list es)) (i : immAll es = true) : ExW T Δ te (.list es) := fun σ F s H su t Q q => h σ F s H su t Q fun v F' H' st r n => q v F' H' st (by
  cases r with
  | @lst p us _ a r => exact .lst (by rw [nw_in (.inl (n p rfl))]; exact a) (r.imm nw_tup i))
theorem exW_l {_ : Dt α} [Imm α] {xs : List α} (h : ExN T Δ te (d xs)) : ExW T Δ te (d xs) := exW_list (es := xs.map d) h (immAll_map xs)
theorem exW_i {_ : Dt α} [Imm α] {x : α} (h : Ex T Δ te (d x)) : ExW T Δ te (d x) := exW_imm h (Imm.h x)
theorem eaW_nil : EaW T Δ tNil [] := fun σ F s H su t Q q => q [] F H (.refl su t) .nil
theorem eaW_cons (h : ExW T Δ te e) (hr : EaW T Δ tr es) : EaW T Δ (tCons te tr) (e :: es) := fun σ F s H su t Q q => h σ F s H su t _ fun v F1 H1 s1 r1 => hr σ F1 (s.mono s1.ff) H1 s1.sub s1.tab _ fun vs F2 H2 s2 r2 => q _ F2 H2 (s1.trans s2) (.cons (r1.mono (nw_le (fun _ z => z) s2.ff)) (r2.mono (nw_le (fun a z => s1.ext.live a z) (Same.refl _))))
theorem exW_lst (h : EaW T Δ tr es) (hl : es.length ≤ 1000) : ExW T Δ (tLst tr) (.list es) := fun σ F s H su t Q q => h σ F s H su t _ fun vs F1 H1 st r =>
  ⟨Nat.le_trans (by have := r.length; omega) (by decide : 1000 ≤ sizeLine), fun p hp => by
    have s2 : Step T F1 (upd F1 p (.lst vs)) H1 (upd H1 p (.lst vs)) := .made st.sub st.tab hp nt_lst
    exact q (.ref p) _ _ (st.trans s2) (.lst (by rw [nw_in (.inl (st.ext.live p hp))]; exact upd_same) (r.mono (nw_le (fun _ z => z) s2.ff)))⟩
theorem exW_tup (h : EaW T Δ tr es) (hl : es.length ≤ 1000) : ExW T Δ (tTup tr) (.tuple es) := fun σ F s H su t Q q => h σ F s H su t _ fun vs F1 H1 st r =>
  ⟨Nat.le_trans (by have := r.length; omega) (by decide : 1000 ≤ sizeLine), fun p hp => by
    have s2 : Step T F1 (upd F1 p (.tup vs)) H1 (upd H1 p (.tup vs)) := .made st.sub st.tab hp nt_tup
    exact q (.ref p) _ _ (st.trans s2) (.tup (by rw [nw_in (.inr ⟨_, upd_same⟩)]; exact upd_same) (r.mono (nw_le (fun _ z => z) s2.ff)))⟩
/-- what is new through and through isn't written here -/
theorem Ok.nwHide (o : Ok T F0 H0 F H σ Γ) (s : Step T (seeF Γ F H) G H H') : Same (nwF H G) (hideF Γ G) := fun a u e => by
  obtain ⟨z, g⟩ := nw_some e
  rcases z with z | ⟨us, y⟩
  · rw [hideF_no fun ⟨i, e, q⟩ => (o.ow i a e q).2.2.2.wr.some z]
    exact g
  · rw [g] at y
    cases y
    exact o.tupIn s a us g
theorem es_seeW (h : ExW T (see Γ) te e) : Es T Γ te false e := fun F0 H0 F H σ o Q q => h σ _ o.toSee H o.seeSub o.st.tab Q fun v G H' s r => q v (hideF Γ G) H' (o.unsee s).ff (o.step (o.unsee s)) (r.mono (o.nwHide s)) fun z => nomatch z
/-! ### runs that end with such an answer -/
def RunW (T : List (Addr × Str)) (K : PySem.W.Frag) (E : XK) (Γ : List Sl) (t : TS) (R : Out → Prop) (P : PyData → Prop) : Prop := ∀ (F0 H0 F H : Hp) (σ : St) (D : Ends), Ok T F0 H0 F H σ Γ → Fin T K E F0 H0 F D R →
  (∀ e Γ' σ' F' H' v, P e → Same F F' → Ok T F0 H0 F' H' σ' Γ' → Rv (nwF H0 F') v e → D.rt v H') → t D σ H
theorem rw_of (h : Run T K E Γ t R) : RunW T K E Γ t R P := fun F0 H0 F H σ D o f _ => h F0 H0 F H σ D o f
def sqW (T : List (Addr × Str)) (K : PySem.W.Frag) (E : XK) (u : TS) (R : Out → Prop) (P : PyData → Prop) : Out → Prop
  | .nx Γ => RunW T K E Γ u R P
  | .bk Γ => R (.bk Γ)
  | .ct Γ => R (.ct Γ)
  | .rt n e Γ => R (.rt n e Γ)
  | .ex c => R (.ex c)
theorem rw_seqW (h : RunW T K E Γ t (sqW T K E u R P) P) : RunW T K E Γ (tSeq t u) R P := fun F0 H0 F H σ D o f fp => h F0 H0 F H σ _ o ⟨fun Γ' σ' F' H' r l o' => r F0 H0 F' H' σ' D o' (f.shift l) fun e Γ2 σ2 F2 H2 v a b c x => fp e Γ2 σ2 F2 H2 v a (l.trans b) c x, f.bk, f.ct, f.rt, f.ex⟩ fp
theorem rw_seq (h : Run T K E Γ t (sqW T K E u R P)) : RunW T K E Γ (tSeq t u) R P := rw_seqW (rw_of h)
theorem rw_if {b : Bool} (h : Et T (see Γ) tt b) (h1 : b = true → RunW T K E Γ t R P) (h2 : b = false → RunW T K E Γ u R P) : RunW T K E Γ (tIfS tt t u) R P := fun F0 H0 F H σ D o f fp => o.test h _ fun H' s => by
  cases b with
  | true => exact h1 rfl F0 H0 F H' σ D (o.step s) f fp
  | false => exact h2 rfl F0 H0 F H' σ D (o.step s) f fp
theorem rw_ret (h : ExW T (see Γ) te e) (hp : P e) : RunW T K E Γ (tRet te) R P := fun F0 H0 F H σ D o f fp => h σ _ o.toSee H o.seeSub o.st.tab _ fun v G H' s r => fp e Γ σ (hideF Γ G) H' v hp (o.unsee s).ff (o.step (o.unsee s)) (r.mono fun a u z => by
  have y := o.nwHide s a u z
  rw [nw_in ((nw_some z).1.imp (fun k => o.st.ext.live a k) fun ⟨us, k⟩ => ⟨us, ?_⟩)]
  · exact y
  · have g := (nw_some z).2
    rw [g] at k
    cases k
    exact y)
theorem rw_some {ι : Type} {Pi : ι → Prop} {t : ι → TS} (c : ι) (hc : Pi c) (h : RunW T K E Γ (t c) R P) : RunW T K E Γ (fun D σ H => ∃ c, Pi c ∧ t c D σ H) R P := fun F0 H0 F H σ D o f fp => ⟨c, hc, h F0 H0 F H σ D o f fp⟩
theorem rw_try_as {i n : Nat} {cv : Value} {tb : WX → TS} {ts : Addr → Value → Option Addr → TS} {Wout : WX} (C : Str → Prop) (hn : Γ.length = n) (body : ∀ W : WX, RunW T K (fun cls dd H => ∀ σ : St, σ.length = n → W cls dd σ H) Γ (tb W) (tryR C R) P)
    (exm : ∀ c, C c → PySem.W.exmOne K (.ref (He.ga K c)) cv = some true) (hand : ∀ c a, C c → RunW T K E ((List.replicate n Sl.no).set i (.raw (.ref a))) (ts a (.ref (He.ga K c)) none) (goneR i R) P) :
    RunW T K E Γ (fun D σ H => tb (L2.wAs K cv i ts Wout D) D σ H) R P := fun F0 H0 F H σ D o f fp => by
  refine body _ F0 H0 F H σ D o ⟨f.nx, f.bk, f.ct, f.rt, fun c F' H' hc l st σ' hl => ?_⟩ fp
  have hc' : C c := hc
  refine ⟨true, exm c hc', fun _ a ha => ?_, fun z => nomatch z⟩
  exact hand c a hc' F0 H0 F' H' _ _ (ok_raw st hl) ⟨fun Γ2 σ2 F2 H2 r l2 o2 => f.nx _ _ F2 H2 r (l.trans l2) o2.forget, fun Γ2 σ2 F2 H2 r l2 o2 => f.bk _ _ F2 H2 r (l.trans l2) o2.forget, fun Γ2 σ2 F2 H2 r l2 o2 => f.ct _ _ F2 H2 r (l.trans l2) o2.forget,
    fun m e Γ2 σ2 F2 H2 v r l2 o2 rv z => f.rt m e Γ2 σ2 F2 H2 v r (l.trans l2) o2 rv z, fun c F2 H2 r l2 st2 => f.ex c F2 H2 r (l.trans l2) st2⟩ fun e Γ2 σ2 F2 H2 v hp l2 o2 r => fp e Γ2 σ2 F2 H2 v hp (l.trans l2) o2 r
/-! ### defs whose answers are new through and through -/
def PuW (T : List (Addr × Str)) (R : Hp → List V → PyData → Prop) : Sp := fun vs H Q _ => ∃ (F : Hp) (e : PyData), Sub F H ∧ LamX.Tabs T H ∧ R F vs e ∧ ∀ v F' H', Step T F F' H H' → Rv (nwF H F') v e → Q v H'
theorem exW_call {R : Hp → List V → PyData → Prop} {X : XK} (ha : Ea T Δ tr es) (hR : ∀ F vs, RvL F vs es → R F vs e) : ExW T Δ (tCall (PuW T R) [] X tr) e := fun σ F s H su t Q q => ha σ F s H su t _ fun vs F1 H1 s1 rv => ⟨F1, e, s1.sub, s1.tab, by rw [List.append_nil]; exact hR F1 vs rv, fun v F2 H2 s2 r2 => q v F2 H2 (s1.trans s2) (r2.mono (nw_le (fun a z => s1.ext.live a z) (Same.refl _)))⟩
theorem exW_call1 {_ : Dt α} {_ : Dt β} {f : α → β} {pre : α → Prop} {x : α} {X : XK} (h1 : Ex T Δ ta (d x)) (hp : pre x) : ExW T Δ (tCall (PuW T (R1 f pre)) [] X (tCons ta tNil)) (d (f x)) := exW_call (ea_cons' h1 ea_nil') fun F vs r => ⟨x, r, hp, rfl⟩
theorem exW_call2 {_ : Dt α} {_ : Dt β} {_ : Dt γ} {f : α → β → γ} {pre : α → β → Prop} {x : α} {y : β} {X : XK} (h1 : Ex T Δ ta (d x)) (h2 : Ex T Δ tb (d y)) (hp : pre x y) : ExW T Δ (tCall (PuW T (R2' f pre)) [] X (tCons ta (tCons tb tNil))) (d (f x y)) := exW_call (ea_cons' h1 (ea_cons' h2 ea_nil')) fun F vs r => ⟨x, y, r, hp, rfl⟩
theorem exW_call3 {tc : TE} {_ : Dt α} {_ : Dt β} {_ : Dt γ} {_ : Dt ν} {f : α → β → γ → ν} {pre : α → β → γ → Prop} {x : α} {y : β} {z : γ} {X : XK} (h1 : Ex T Δ ta (d x)) (h2 : Ex T Δ tb (d y)) (h3 : Ex T Δ tc (d z)) (hp : pre x y z) : ExW T Δ (tCall (PuW T (R3 f pre)) [] X (tCons ta (tCons tb (tCons tc tNil)))) (d (f x y z)) := exW_call (ea_cons' h1 (ea_cons' h2 (ea_cons' h3 ea_nil'))) fun F vs r => ⟨x, y, z, r, hp, rfl⟩
theorem run_puW {R : Hp → List V → PyData → Prop} {N : List Str} {vs : List V} {Q : VK} (k a : Nat) (h : PuW T R vs H Q E) (hN : N.length = a + k) (hR : ∀ F vs e, R F vs e → ∃ es : List PyData, RvL F vs es ∧ es.length = a ∧ RunW T K E (es.map Sl.sh ++ List.replicate k .no) t (fun _ => False) (fun e' => e' = e)) : t { nx := fun _ H' => Q .non H', rt := Q } (L2.start N vs) H := by
  obtain ⟨F, e, s, tb, r, q⟩ := h
  obtain ⟨es, rv, la, run⟩ := hR F vs e r
  refine run F H F H _ _ (ok_start k s tb rv (by rw [la]; exact hN)) ⟨fun Γ σ F' H' z l o => z.elim, fun Γ σ F' H' z l o => z.elim, fun Γ σ F' H' z l o => z.elim, fun m e Γ σ F' H' v z l o r1 y => z.elim, fun c F' H' z _ _ => z.elim⟩ fun e' Γ' σ' F' H' v z l o r2 => ?_
  rw [show e' = e from z] at r2
  exact q v F' H' o.st r2
theorem run_puW1 {_ : Dt α} {_ : Dt β} {f : α → β} {pre : α → Prop} {N : List Str} {vs : List V} {Q : VK} (k : Nat) (h : PuW T (R1 f pre) vs H Q E) (hN : N.length = 1 + k) (run : ∀ x, pre x → RunW T K E (.sh (d x) :: List.replicate k .no) t (fun _ => False) (fun e => e = d (f x))) : t { nx := fun _ H' => Q .non H', rt := Q } (L2.start N vs) H :=
  run_puW k 1 h hN fun F vs e ⟨x, r, hp, he⟩ => ⟨[d x], r, rfl, by subst he; exact run x hp⟩
theorem run_puW2 {_ : Dt α} {_ : Dt β} {_ : Dt γ} {f : α → β → γ} {pre : α → β → Prop} {N : List Str} {vs : List V} {Q : VK} (k : Nat) (h : PuW T (R2' f pre) vs H Q E) (hN : N.length = 2 + k) (run : ∀ x y, pre x y → RunW T K E (.sh (d x) :: .sh (d y) :: List.replicate k .no) t (fun _ => False) (fun e => e = d (f x y))) : t { nx := fun _ H' => Q .non H', rt := Q } (L2.start N vs) H :=
  run_puW k 2 h hN fun F vs e ⟨x, y, r, hp, he⟩ => ⟨[d x, d y], r, rfl, by subst he; exact run x y hp⟩
theorem run_puW3 {_ : Dt α} {_ : Dt β} {_ : Dt γ} {_ : Dt ν} {f : α → β → γ → ν} {pre : α → β → γ → Prop} {N : List Str} {vs : List V} {Q : VK} (k : Nat) (h : PuW T (R3 f pre) vs H Q E) (hN : N.length = 3 + k) (run : ∀ x y z, pre x y z → RunW T K E (.sh (d x) :: .sh (d y) :: .sh (d z) :: List.replicate k .no) t (fun _ => False) (fun e => e = d (f x y z))) : t { nx := fun _ H' => Q .non H', rt := Q } (L2.start N vs) H :=
  run_puW k 3 h hN fun F vs e ⟨x, y, z, r, hp, he⟩ => ⟨[d x, d y, d z], r, rfl, by subst he; exact run x y z hp⟩
theorem len_puW {R : Hp → List V → PyData → Prop} {vs : List V} {Q : VK} {a : Nat} (h : PuW T R vs H Q E) (hR : ∀ F vs e, R F vs e → vs.length = a) : vs.length = a := by
  obtain ⟨F, e, s, tb, r, q⟩ := h
  exact hR F vs e r
theorem lenW1 {_ : Dt α} {_ : Dt β} {f : α → β} {pre : α → Prop} {vs : List V} {Q : VK} (h : PuW T (R1 f pre) vs H Q E) : vs.length = 1 := len_puW h fun F vs e ⟨x, r, _⟩ => by have := r.length; simpa using this
theorem lenW2 {_ : Dt α} {_ : Dt β} {_ : Dt γ} {f : α → β → γ} {pre : α → β → Prop} {vs : List V} {Q : VK} (h : PuW T (R2' f pre) vs H Q E) : vs.length = 2 := len_puW h fun F vs e ⟨x, y, r, _⟩ => by have := r.length; simpa using this
theorem lenW3 {_ : Dt α} {_ : Dt β} {_ : Dt γ} {_ : Dt ν} {f : α → β → γ → ν} {pre : α → β → γ → Prop} {vs : List V} {Q : VK} (h : PuW T (R3 f pre) vs H Q E) : vs.length = 3 := len_puW h fun F vs e ⟨x, y, z, r, _⟩ => by have := r.length; simpa using this
end
/-! ### what is asked -/
section
variable {K : PySem.W.Frag} {E : XK} {Γ : List Sl} {tb : WX → TS} {i n : Nat} {r : Except Str PyData}
theorem ask_handW {k : Nat} {c : Str} {a : Addr} (hc : c ∈ markNames ∧ c ≠ "FloorError") (hk : k ≤ 8) (hi : i < n) {R : Out → Prop} : RunW (tabs K) K E ((List.replicate n Sl.no).set i (.raw (.ref a))) (tsAsk K i k a (.ref (He.ga K c)) none) R (fun e => e = askedE k (.error c)) := by
  refine rw_some c ⟨hc.1, hc.2, rfl, rfl⟩ ?_
  refine rw_ret (e := askedE k (.error c)) (exW_lst (es := [.none, .bool (decide (markNames[k]? = some c))]) (eaW_cons (exW_i (x := ()) ex_none) (eaW_cons (exW_i (x := decide (markNames[k]? = some c)) (ex_eq (ex_alone (k := (k : Int)) ?_ ex_int ⟨by omega, by omega⟩) ?_)) eaW_nil)) (Nat.le_of_ble_eq_true rfl)) rfl
  · unfold see
    rw [List.getElem?_map, List.getElem?_set_self (by simpa using hi)]
    rfl
  · rw [Int.toNat_natCast]
theorem run_askW {k : Nat} (hn : Γ.length = n) (hk : k ≤ 8) (hi : i < n) (Ks : Kinds K) (ok : ∀ c, r = .error c → c ∈ markNames ∧ c ≠ "FloorError")
    (body : ∀ W : WX, RunW (tabs K) K (fun cls dd H => ∀ σ : St, σ.length = n → W cls dd σ H) Γ (tb W) (fun o => ∃ c, o = .ex c ∧ r = .error c) (fun e => e = askedE k r)) {Wout : WX} :
    RunW (tabs K) K E Γ (fun D σ H => tb (L2.wAs K (.ref (He.ga K "FloorError")) i (tsAsk K i k) Wout D) D σ H) (fun _ => False) (fun e => e = askedE k r) := by
  refine rw_try_as (ts := tsAsk K i k) (fun c => r = .error c) hn (fun W => ?_) (fun c hc => Ks.exm c (ok c hc).1) fun c a hc => ?_
  · refine fun F0 H0 F H σ D o f fp => body W F0 H0 F H σ D o ⟨fun Γ σ F' H' ⟨c, z, _⟩ => (by cases z), fun Γ σ F' H' ⟨c, z, _⟩ => (by cases z), fun Γ σ F' H' ⟨c, z, _⟩ => (by cases z), fun m e Γ σ F' H' v ⟨c, z, _⟩ => (by cases z), fun c F' H' ⟨c', z, y⟩ => ?_⟩ fp
    cases z
    exact f.ex c F' H' y
  · subst hc
    exact ask_handW (ok c rfl) hk hi
end
end Tf

/-! The laws' drawn layings have heights; handing them in. -/
namespace Tf
open PySem PySem.Spec PyProof.Rows L2 Dt
theorem putPair_nk {D : Dc Pt} {p q : Pt} (h : D.keys.Nodup) : (putPair D p q).keys.Nodup := put_nk (put_nk h _ _) _ _
theorem flat_nk (rows : BR) (up : Bool) : (flatPairs rows up).keys.Nodup := by
  have row : ∀ (y : Int) (xs : List Int) (l : List Int) (D : Dc Pt), D.keys.Nodup → (l.foldl (flatStep up y xs) D).keys.Nodup := by
    intro y xs l
    induction l with
    | nil => intro D h; exact h
    | cons k l ih => intro D h; rw [List.foldl_cons]; exact ih _ (putPair_nk h)
  have all : ∀ (l : List Int) (D : Dc Pt), D.keys.Nodup → (l.foldl (fun D y => flatRow up y D (ones (rowAt rows y))) D).keys.Nodup := by
    intro l
    induction l with
    | nil => intro D h; exact h
    | cons k l ih => intro D h; rw [List.foldl_cons]; exact ih _ (row _ _ _ _ h)
  exact all _ _ (by simp [Dc.keys])
theorem fine_small {rows : BR} (f : Fine rows) : ∀ p ∈ lawCells rows, small p := fun p hp => by
  obtain ⟨y, ⟨y0, y1⟩, x, hx, e⟩ := (flat_law _).mp hp
  have e' : p = (x, y) := e
  obtain ⟨x0, hb⟩ := mem_ones.mp hx
  have same := f.br.2.2.2
  have rm : rowAt rows y ∈ rows := by
    unfold rowAt
    rw [List.getD_eq_getElem?_getD, List.getElem?_eq_getElem (by omega)]
    exact List.getElem_mem _
  have bl : x.toNat < (rowAt rows y).bs.length := by
    by_cases z : x.toNat < (rowAt rows y).bs.length
    · exact z
    · rw [List.getD_eq_getElem?_getD, List.getElem?_eq_none (by omega)] at hb
      cases hb
  have l1 := same _ rm
  have l2 := f.w6
  have l3 := f.len
  subst e'
  refine ⟨⟨?_, ?_⟩, ⟨?_, ?_⟩⟩ <;> simp only <;> omega
theorem lay_base (ns : List Int) : LayH (lawCells (canRows ns)) (flatPairs (baseRows ns) (upOf ns)) := by
  have fine := can_fine ns
  have fg := flG_of (K := []) fine
  refine ⟨⟨can_full ns, flat_nk _ _, ?_, fine_small fine⟩, ?_, fine.ne, fine.conn, can_pot ns⟩
  · rw [← fg.2]; exact fg.1.sm
  · rw [← fg.2]; exact fg.1.so
theorem LayH.turned1 {cells : List Pt} {D : Dc Pt} {c : Pt} (L : LayH cells D) : LayH cells (turned1 D c) := by
  obtain ⟨h, P⟩ := L.pot
  obtain ⟨h', P', _⟩ := pot_turned1 (c := c) L.lay.full P
  exact ⟨L.lay.turned1, L.so, L.ne, L.cn, h', P'⟩
theorem LayH.drawn {cells : List Pt} {D : Dc Pt} {n many : Int} (L : LayH cells D) : LayH cells (drawnP D n many) := by
  obtain ⟨h, P⟩ := L.pot
  obtain ⟨h', P', _⟩ := pot_drawn (n := n) (many := many) L.lay.full P
  refine ⟨?_, L.so, L.ne, L.cn, h', P'⟩
  have g : ∀ (l : List Int) (s : Dc Pt × Int), Lay cells s.1 → Lay cells (l.foldl drawStep s).1 := by
    intro l
    induction l with
    | nil => intro s h; exact h
    | cons k l ih =>
      intro s h
      rw [List.foldl_cons]
      exact ih _ h.turned1
  exact g _ _ L.lay
/-! ### handing in -/
theorem okPiece_d (e : Pc) : okPiece (d e) := ⟨rfl, fun a b z => by
  have z' : PyData.tuple [d e.1, d e.2] = .tuple [a, b] := z
  injection z' with z1
  injection z1 with z2 z3
  injection z3 with z4 _
  subst z2 z4
  exact ⟨okThing_pt _, okThing_pt _⟩⟩
theorem okPieces_d {xs : List Pc} (h : xs.length ≤ 1000) : okPieces (d xs) := ⟨rfl, fun ys z => by
  have z' : PyData.list (xs.map d) = .list ys := z
  injection z' with z1
  subst z1
  refine ⟨by rw [List.length_map]; exact h, fun y hy => ?_⟩
  obtain ⟨e, _, rfl⟩ := List.mem_map.mp hy
  exact okPiece_d e⟩
theorem partsX_hand {K : PySem.W.Frag} {f : Fl} (fl : FlG K f) {D : Dc Pt} (F : Full f.cells D) {xs : List Pc} (h : Hand f.cells D xs) : ∃ D', partsX f (d xs) = some D' ∧ ∀ a, D'.get a = D.get a := hand_taken fl F h
theorem hand_told {cells : List Pt} {D : Dc Pt} (L : Lay cells D) (so : cells.Pairwise ltYX) : Hand cells D (toldP D) := by
  have told := told_lay L so
  have p : List.Perm (bothOf (toldP D)) cells := by rw [told]; exact both_lay L.full so L.sm
  refine ⟨fun e he => ?_, p.nodup_iff.mpr (nodup_lt so), fun c hc => p.mem_iff.mpr hc⟩
  rw [told] at he
  obtain ⟨c, hc, rfl⟩ := List.mem_map.mp he
  exact L.full.get (List.mem_filter.mp hc).1
theorem handed_len {cells : List Pt} {D : Dc Pt} {n : Int} (L : Lay cells D) : (handedP D n).length ≤ 36 := by
  have tl := told_len L
  have g : ∀ (l : List (Int × Pc)) (a : List Pc), (l.foldl (handStep n) a).length = a.length + l.length := by
    intro l
    induction l with
    | nil => intro a; rfl
    | cons e l ih =>
      intro a
      rw [List.foldl_cons, ih]
      unfold handStep
      generalize (mixed n e.1 / 14 % ((a.length : Int) + 1)).toNat = k
      simp only [List.length_append, List.length_take, List.length_drop, List.length_cons, List.length_nil]
      omega
  unfold handedP
  rw [g, enumI_length]
  simp only [List.length_nil]
  omega
/-- what the program makes of a laying that is handed in -/
structure Taken (f : Fl) (D : Dc Pt) (x : PyData) (D' : Dc Pt) : Prop where
  ok : okPieces x
  px : partsX f x = some D'
  get : ∀ a, D'.get a = D.get a
  full : Full f.cells D'
theorem taken_handed {K : PySem.W.Frag} {f : Fl} (fl : FlG K f) {D : Dc Pt} (L : LayH f.cells D) (n : Int) : ∃ D', Taken f D (d (handedP D n)) D' := by
  obtain ⟨D', h1, h2⟩ := partsX_hand fl L.lay.full (hand_of L.lay L.so n)
  exact ⟨D', okPieces_d (by have := handed_len (n := n) L.lay; omega), h1, h2, full_same L.lay.full h2⟩
theorem taken_told {K : PySem.W.Frag} {f : Fl} (fl : FlG K f) {D : Dc Pt} (L : LayH f.cells D) : ∃ D', Taken f D (d (toldP D)) D' := by
  obtain ⟨D', h1, h2⟩ := partsX_hand fl L.lay.full (hand_told L.lay L.so)
  exact ⟨D', okPieces_d (by have := told_len L.lay; omega), h1, h2, full_same L.lay.full h2⟩
/-! ### turns of a laying that is handed in -/
theorem Taken.turns {K : PySem.W.Frag} {f : Fl} (fl : FlG K f) {D D' : Dc Pt} {x : PyData} (L : LayH f.cells D) (t : Taken f D x D') : turnsR f x = .ok (d (lawTurns D)) := by
  unfold turnsR
  rw [t.px]
  simp only
  rw [turns_law fl L t.get t.full]
theorem Taken.turned {K : PySem.W.Frag} {f : Fl} (fl : FlG K f) {D D' : Dc Pt} {x : PyData} {c : Pt} (L : LayH f.cells D) (t : Taken f D x D') (h : c ∈ lawTurns D) : turnedR f x (d c) = .ok (d (toldP (turned1 D c))) := by
  have tu := (mem_lawTurns L).mp h
  have m : ptD (d c) ∈ turnsB f D' := by rw [ptD_of, turns_law fl L t.get t.full]; exact h
  rw [turnedR_ok t.px ⟨place_of c, m⟩, ptD_of]
  obtain ⟨x, y⟩ := c
  rw [told_lay L.turned1.lay L.so, lay_same (turnedB_get t.full t.get tu)]
theorem Taken.noturn {K : PySem.W.Frag} {f : Fl} (fl : FlG K f) {D D' : Dc Pt} {x y : PyData} (L : LayH f.cells D) (t : Taken f D x D') (h : ¬ (isPlaceD y = true ∧ ptD y ∈ lawTurns D)) : turnedR f x y = .error "NoTurn" :=
  turnedR_no t.px (by rw [turns_law fl L t.get t.full]; exact h)
/-- turned once more it is the same again -/
theorem turn_back {cells : List Pt} {D : Dc Pt} {c : Pt} (L : LayH cells D) (h : c ∈ lawTurns D) : c ∈ lawTurns (turned1 D c) ∧ toldP (turned1 (turned1 D c) c) = toldP D := by
  have F := L.lay.full
  obtain ⟨D', t⟩ := Option.isSome_iff_exists.mp ((mem_lawTurns L).mp h)
  have e1 : turned1 D c = D' := by unfold turned1; rw [t]; rfl
  have L1 : LayH cells D' := e1 ▸ L.turned1
  obtain ⟨x, y⟩ := c
  obtain ⟨⟨s, T⟩, I, same⟩ := turn_facts F t
  have tt : (turnP D' (x, y)).isSome = true := by
    unfold turnP
    simp only
    cases T with
    | flat a b c e a' b' c' e' => rw [if_neg (fun z => some_ne (by omega) (a'.symm.trans z.1)), if_pos ⟨a', b'⟩]; rfl
    | up a b c e a' b' c' e' => rw [if_pos ⟨a', c'⟩]; rfl
  rw [e1]
  refine ⟨(mem_lawTurns L1).mpr tt, ?_⟩
  obtain ⟨D2, t2⟩ := Option.isSome_iff_exists.mp tt
  have e2 : turned1 D' (x, y) = D2 := by unfold turned1; rw [t2]; rfl
  obtain ⟨⟨s2, T2⟩, _, same2⟩ := turn_facts L1.lay.full t2
  rw [e2]
  have L2 : LayH cells D2 := e2 ▸ L1.turned1
  rw [told_lay L2.lay L.so, told_lay L.lay L.so]
  refine lay_same fun q => ?_
  obtain ⟨u, v⟩ := q
  by_cases z : (u = x - 1 ∨ u = x) ∧ (v = y - 1 ∨ v = y)
  · cases T with
    | flat a b c e a' b' c' e' =>
      cases T2 with
      | flat a2 b2 c2 e2 a3 b3 c3 e3 => exact (some_ne (by omega) (a'.symm.trans a2)).elim
      | up a2 b2 c2 e2 a3 b3 c3 e3 =>
        obtain ⟨rfl | rfl, rfl | rfl⟩ := z
        · rw [a3, a]
        · rw [c3, c]
        · rw [b3, b]
        · rw [e3, e]
    | up a b c e a' b' c' e' =>
      cases T2 with
      | up a2 b2 c2 e2 a3 b3 c3 e3 => exact (some_ne (by omega) (a'.symm.trans a2)).elim
      | flat a2 b2 c2 e2 a3 b3 c3 e3 =>
        obtain ⟨rfl | rfl, rfl | rfl⟩ := z
        · rw [a3, a]
        · rw [c3, c]
        · rw [b3, b]
        · rw [e3, e]
  · rw [same2 u v z, same u v z]
theorem fst_least {cells : List Pt} (so : cells.Pairwise ltYX) {p : Pt} (hp : p ∈ cells) : fstOf cells = p ∨ ltYX (fstOf cells) p := by
  cases cells with
  | nil => cases hp
  | cons a l =>
    rw [List.pairwise_cons] at so
    rcases List.mem_cons.mp hp with rfl | hp
    · exact .inl rfl
    · exact .inr (so.1 p hp)
theorem inner_ne_fst {cells : List Pt} (so : cells.Pairwise ltYX) {c : Pt} (I : Inner cells c) : fstOf cells ≠ c := fun z => by
  have h := fst_least so I.1
  rw [z] at h
  obtain ⟨x, y⟩ := c
  rcases h with h | h
  · injection h with h1 h2; omega
  · unfold ltYX at h; simp only at h; omega
/-- just one corner's height changes, by 4 -/
theorem turn_changes {cells : List Pt} {D : Dc Pt} {c : Pt} (L : LayH cells D) (h : c ∈ lawTurns D) : changesB D (turned1 D c) c = true := by
  obtain ⟨k, P⟩ := L.pot
  obtain ⟨D', t⟩ := Option.isSome_iff_exists.mp ((mem_lawTurns L).mp h)
  have e1 : turned1 D c = D' := by unfold turned1; rw [t]; rfl
  have L1 : LayH cells D' := e1 ▸ L.turned1
  rw [e1]
  obtain ⟨x, y⟩ := c
  obtain ⟨s, s4, T, P', I⟩ := pot_turn L.lay.full P t
  have H := L.nums P
  have H' := L1.nums P'
  have nf := inner_ne_fst L.so I
  have cc : Cor cells (x, y) := .inr (.inr (.inr I.2.2.2))
  have g : ∀ p, Cor cells p → gN (lawNums D) p = k p - k (fstOf cells) ∧ gN (lawNums D') p = bump k (x, y) s p - k (fstOf cells) := fun p hp => by
    refine ⟨gN_of (H.val p hp), ?_⟩
    rw [gN_of (H'.val p hp)]
    have : bump k (x, y) s (fstOf cells) = k (fstOf cells) := if_neg nf
    rw [this]
  unfold changesB
  rw [Bool.and_eq_true]
  constructor
  · refine decide_eq_true ?_
    unfold changedL
    have mk := (mem_keys_ht H (p := (x, y))).mpr cc
    have e : ((lawNums D).keys.filter fun p => !decide (gN (lawNums D) p = gN (lawNums D') p)) = (lawNums D).keys.filter fun p => decide (p = (x, y)) := List.filter_congr fun p hp => by
      obtain ⟨g1, g2⟩ := g p ((mem_keys_ht H).mp hp)
      rw [g1, g2]
      by_cases z : p = (x, y)
      · subst z
        rw [bump_at, decide_eq_true rfl, decide_eq_false (by omega)]
        rfl
      · have : bump k (x, y) s p = k p := if_neg z
        rw [this, decide_eq_false z, decide_eq_true rfl]
        rfl
    rw [e]
    have nd := H.nk
    generalize (lawNums D).keys = l at mk nd
    clear e g H H'
    induction l with
    | nil => cases mk
    | cons a l ih =>
      rw [List.nodup_cons] at nd
      by_cases z : a = (x, y)
      · subst z
        rw [List.filter_cons_of_pos (by simp)]
        congr 1
        refine List.filter_eq_nil_iff.mpr fun p hp q => ?_
        rw [of_decide_eq_true q] at hp
        exact nd.1 hp
      · rw [List.filter_cons_of_neg (by simp [z])]
        exact ih ((List.mem_cons.mp mk).resolve_left fun q => z q.symm) nd.2
  · refine decide_eq_true ?_
    obtain ⟨g1, g2⟩ := g _ cc
    rw [g1, g2, bump_at]
    unfold absI
    split <;> omega
end Tf
namespace Tf
open PySem PySem.Spec PyProof.Rows L2 Dt
section
variable {T : List (Addr × Str)} {K : PySem.W.Frag} {E : XK} {Γ Γ1 Δ : List Sl} {t u : TS} {R : Out → Prop} {ta tb tc : TE} {α β γ ν : Type}
theorem r_seqE (h : Run T K E Γ t (fun o => o = .nx Γ1)) (k : Run T K E Γ1 u R) : Run T K E Γ (tSeq t u) R := r_seq (h.mono fun o e => by subst e; exact k)
theorem exN_call3 {X : XK} {_ : Dt α} {_ : Dt β} {_ : Dt γ} {_ : Dt ν} {f : α → β → γ → ν} {pre : α → β → γ → Prop} {x : α} {y : β} {z : γ} (h1 : Ex T Δ ta (d x)) (h2 : Ex T Δ tb (d y)) (h3 : Ex T Δ tc (d z)) (hp : pre x y z) : ExN T Δ (tCall (PuN T (R3 f pre)) [] X (tCons ta (tCons tb (tCons tc tNil)))) (d (f x y z)) := fun σ F s H su t Q q =>
  (ea_cons' h1 (ea_cons' h2 (ea_cons' h3 ea_nil'))) σ F s H su t _ fun vs F1 H1 s1 r1 => ⟨F1, d (f x y z), s1.sub, s1.tab, ⟨x, y, z, by rw [List.append_nil]; exact r1, hp, rfl⟩, fun v F' H' s3 r3 n => q v F' H' (s1.trans s3) r3 fun p e => s1.ext.live p (n p e)⟩
end
end Tf

namespace Tf
open PySem PySem.Spec PyProof.Rows L2 Dt
abbrev sp__law_asked (K : PySem.W.Frag) : Sp := PuW (tabs K) (R3 (fun f x y => askedE 7 (turnedR f x y)) fun f x y => FlG K f ∧ okPieces x ∧ okThing y)
theorem turnedR_err {f : Fl} {x y : PyData} {c : Str} (h : turnedR f x y = .error c) : c = "BadLaying" ∨ c = "NoTurn" := by
  unfold turnedR at h
  split at h
  · split at h
    · cases h
    · cases h; exact .inr rfl
  · cases h; exact .inl rfl
theorem turnedR_list {f : Fl} {x y e : PyData} (h : turnedR f x y = .ok e) : ∃ ps : List Pc, e = d ps := by
  unfold turnedR at h
  split at h
  · split at h
    · cases h; exact ⟨_, rfl⟩
    · cases h
  · cases h
def odd6 : List PyData := [.none, d ("a" : Str), .tuple [d (1 : Int)], .tuple [d true, d (1 : Int)], .list [d (1 : Int), d (1 : Int)], .tuple [d (1 : Int), d ("1" : Str)]]
def thing1 (c : Int) : PyData := if c % 4 = 1 then odd6.getD (c / 4 % 6).toNat .none else d ((c / 4 % 8, c / 32 % 8) : Pt)
def thing2 (c : Int) (due : List Pt) : PyData := if 1 < c % 4 ∧ due ≠ [] then d (due.getD (c / 4 % (due.length : Int)).toNat default) else thing1 c
theorem odd_ok : ∀ n : _root_.Fin 6, plain (odd6.getD n.val .none) = true ∧ isPlaceD (odd6.getD n.val .none) = false := by decide +kernel
theorem odd_thing : ∀ n : Nat, n < 6 → okThing (odd6.getD n .none)
  | 0, _ => ⟨rfl, fun a b z => nomatch z⟩
  | 1, _ => ⟨rfl, fun a b z => nomatch z⟩
  | 2, _ => ⟨rfl, fun a b z => by
    have z' : PyData.tuple [d (1 : Int)] = .tuple [a, b] := z
    injection z' with z1
    injection z1 with _ z2
    cases z2⟩
  | 3, _ => ⟨rfl, fun a b z => by
    have z' : PyData.tuple [d true, d (1 : Int)] = .tuple [a, b] := z
    injection z' with z1
    injection z1 with z2 z3
    injection z3 with z4 _
    subst z2 z4
    exact ⟨rfl, rfl⟩⟩
  | 4, _ => ⟨rfl, fun a b z => nomatch z⟩
  | 5, _ => ⟨rfl, fun a b z => by
    have z' : PyData.tuple [d (1 : Int), d ("1" : Str)] = .tuple [a, b] := z
    injection z' with z1
    injection z1 with z2 z3
    injection z3 with z4 _
    subst z2 z4
    exact ⟨rfl, rfl⟩⟩
  | n + 6, h => absurd h (by omega)
theorem thing2_ok (c : Int) (due : List Pt) : okThing (thing2 c due) ∧ (c % 4 = 1 → isPlaceD (thing2 c due) = false) ∧ (¬ c % 4 = 1 → ∃ p : Pt, thing2 c due = d p) := by
  unfold thing2 thing1
  by_cases h : 1 < c % 4 ∧ due ≠ []
  · rw [if_pos h]
    exact ⟨okThing_pt _, fun z => by omega, fun _ => ⟨_, rfl⟩⟩
  · rw [if_neg h]
    by_cases z : c % 4 = 1
    · rw [if_pos z]
      have hl : (c / 4 % 6).toNat < 6 := by omega
      exact ⟨odd_thing _ hl, fun _ => (odd_ok ⟨_, hl⟩).2, fun y => (y z).elim⟩
    · rw [if_neg z]
      exact ⟨okThing_pt _, fun y => (z y).elim, fun _ => ⟨_, rfl⟩⟩
end Tf

namespace Tf
open PySem PySem.Spec PyProof.Rows L2
def topS (i : Nat) : Stmt := PySem.Challenge.pw_turnfloor_k06_turns_told.main.body.getD i (.Pass ⟨0, 0, 0, 0⟩)
abbrev s_is_place : Stmt := (topS 15)
def d_is_place : He.DefD := ⟨("is_place", none), "is_place", "is_place", defArgs s_is_place, defBody s_is_place, defScope s_is_place, [], []⟩
abbrev s_in_order : Stmt := (topS 16)
def d_in_order : He.DefD := ⟨("in_order", none), "in_order", "in_order", defArgs s_in_order, defBody s_in_order, defScope s_in_order, [], []⟩
abbrev s_places_beside : Stmt := (topS 17)
def d_places_beside : He.DefD := ⟨("places_beside", none), "places_beside", "places_beside", defArgs s_places_beside, defBody s_places_beside, defScope s_places_beside, [], []⟩
abbrev s_corners_of : Stmt := (topS 18)
def d_corners_of : He.DefD := ⟨("corners_of", none), "corners_of", "corners_of", defArgs s_corners_of, defBody s_corners_of, defScope s_corners_of, [], []⟩
abbrev s_places_round : Stmt := (topS 19)
def d_places_round : He.DefD := ⟨("places_round", none), "places_round", "places_round", defArgs s_places_round, defBody s_places_round, defScope s_places_round, [], []⟩
abbrev s_is_row : Stmt := (topS 20)
def d_is_row : He.DefD := ⟨("is_row", none), "is_row", "is_row", defArgs s_is_row, defBody s_is_row, defScope s_is_row, [], []⟩
abbrev s_are_rows : Stmt := (topS 21)
def d_are_rows : He.DefD := ⟨("are_rows", none), "are_rows", "are_rows", defArgs s_are_rows, defBody s_are_rows, defScope s_are_rows, [], []⟩
abbrev s_cells_in : Stmt := (topS 22)
def d_cells_in : He.DefD := ⟨("cells_in", none), "cells_in", "cells_in", defArgs s_cells_in, defBody s_cells_in, defScope s_cells_in, [], []⟩
abbrev s_hang_together : Stmt := (topS 23)
def d_hang_together : He.DefD := ⟨("hang_together", none), "hang_together", "hang_together", defArgs s_hang_together, defBody s_hang_together, defScope s_hang_together, [], []⟩
abbrev s_places_without_cell : Stmt := (topS 24)
def d_places_without_cell : He.DefD := ⟨("places_without_cell", none), "places_without_cell", "places_without_cell", defArgs s_places_without_cell, defBody s_places_without_cell, defScope s_places_without_cell, [], []⟩
abbrev s_Floor_m_init : Stmt := (inClass (topS 25) 0)
def d_Floor_m_init : He.DefD := ⟨("Floor", some "__init__"), "__init__", "Floor.__init__", defArgs s_Floor_m_init, defBody s_Floor_m_init, defScope s_Floor_m_init, [], []⟩
abbrev s_Floor_m_rows : Stmt := (inClass (topS 25) 1)
def d_Floor_m_rows : He.DefD := ⟨("Floor", some "rows"), "rows", "Floor.rows", defArgs s_Floor_m_rows, defBody s_Floor_m_rows, defScope s_Floor_m_rows, [], []⟩
abbrev s_Floor_m_has : Stmt := (inClass (topS 25) 2)
def d_Floor_m_has : He.DefD := ⟨("Floor", some "has"), "has", "Floor.has", defArgs s_Floor_m_has, defBody s_Floor_m_has, defScope s_Floor_m_has, [], []⟩
abbrev s_Floor_m_cells : Stmt := (inClass (topS 25) 3)
def d_Floor_m_cells : He.DefD := ⟨("Floor", some "cells"), "cells", "Floor.cells", defArgs s_Floor_m_cells, defBody s_Floor_m_cells, defScope s_Floor_m_cells, [], []⟩
abbrev s_Floor_m_beside : Stmt := (inClass (topS 25) 4)
def d_Floor_m_beside : He.DefD := ⟨("Floor", some "beside"), "beside", "Floor.beside", defArgs s_Floor_m_beside, defBody s_Floor_m_beside, defScope s_Floor_m_beside, [], []⟩
abbrev s_Floor_m_corners : Stmt := (inClass (topS 25) 5)
def d_Floor_m_corners : He.DefD := ⟨("Floor", some "corners"), "corners", "Floor.corners", defArgs s_Floor_m_corners, defBody s_Floor_m_corners, defScope s_Floor_m_corners, [], []⟩
abbrev s_Floor_m_inner : Stmt := (inClass (topS 25) 6)
def d_Floor_m_inner : He.DefD := ⟨("Floor", some "inner"), "inner", "Floor.inner", defArgs s_Floor_m_inner, defBody s_Floor_m_inner, defScope s_Floor_m_inner, [], []⟩
abbrev s_Floor_m_is_inner : Stmt := (inClass (topS 25) 7)
def d_Floor_m_is_inner : He.DefD := ⟨("Floor", some "_is_inner"), "_is_inner", "Floor._is_inner", defArgs s_Floor_m_is_inner, defBody s_Floor_m_is_inner, defScope s_Floor_m_is_inner, [], []⟩
abbrev s_is_piece : Stmt := (topS 27)
def d_is_piece : He.DefD := ⟨("is_piece", none), "is_piece", "is_piece", defArgs s_is_piece, defBody s_is_piece, defScope s_is_piece, [], []⟩
abbrev s_partners_in : Stmt := (topS 28)
def d_partners_in : He.DefD := ⟨("partners_in", none), "partners_in", "partners_in", defArgs s_partners_in, defBody s_partners_in, defScope s_partners_in, [], []⟩
abbrev s_laying_by : Stmt := (topS 29)
def d_laying_by : He.DefD := ⟨("laying_by", none), "laying_by", "laying_by", defArgs s_laying_by, defBody s_laying_by, defScope s_laying_by, [], []⟩
abbrev s_turns_by : Stmt := (topS 31)
def d_turns_by : He.DefD := ⟨("turns_by", none), "turns_by", "turns_by", defArgs s_turns_by, defBody s_turns_by, defScope s_turns_by, [], []⟩
abbrev s_turns_of : Stmt := (topS 32)
def d_turns_of : He.DefD := ⟨("turns_of", none), "turns_of", "turns_of", defArgs s_turns_of, defBody s_turns_of, defScope s_turns_of, [], []⟩
abbrev s_pieces_after : Stmt := (topS 33)
def d_pieces_after : He.DefD := ⟨("pieces_after", none), "pieces_after", "pieces_after", defArgs s_pieces_after, defBody s_pieces_after, defScope s_pieces_after, [], []⟩
abbrev s_turned_at : Stmt := (topS 34)
def d_turned_at : He.DefD := ⟨("turned_at", none), "turned_at", "turned_at", defArgs s_turned_at, defBody s_turned_at, defScope s_turned_at, [], []⟩
abbrev s__law_cell_at : Stmt := (topS 36)
def d__law_cell_at : He.DefD := ⟨("_law_cell_at", none), "_law_cell_at", "_law_cell_at", defArgs s__law_cell_at, defBody s__law_cell_at, defScope s__law_cell_at, [], []⟩
abbrev s__law_mixed : Stmt := (topS 37)
def d__law_mixed : He.DefD := ⟨("_law_mixed", none), "_law_mixed", "_law_mixed", defArgs s__law_mixed, defBody s__law_mixed, defScope s__law_mixed, [], []⟩
abbrev s__law_turned_rows : Stmt := (topS 38)
def d__law_turned_rows : He.DefD := ⟨("_law_turned_rows", none), "_law_turned_rows", "_law_turned_rows", defArgs s__law_turned_rows, defBody s__law_turned_rows, defScope s__law_turned_rows, [], []⟩
abbrev s__law_rows_by : Stmt := (topS 39)
def d__law_rows_by : He.DefD := ⟨("_law_rows_by", none), "_law_rows_by", "_law_rows_by", defArgs s__law_rows_by, defBody s__law_rows_by, defScope s__law_rows_by, [], []⟩
abbrev s__law_pairs_flat : Stmt := (topS 40)
def d__law_pairs_flat : He.DefD := ⟨("_law_pairs_flat", none), "_law_pairs_flat", "_law_pairs_flat", defArgs s__law_pairs_flat, defBody s__law_pairs_flat, defScope s__law_pairs_flat, [], []⟩
abbrev s__law_turn : Stmt := (topS 41)
def d__law_turn : He.DefD := ⟨("_law_turn", none), "_law_turn", "_law_turn", defArgs s__law_turn, defBody s__law_turn, defScope s__law_turn, [], []⟩
abbrev s__law_drawn_pairs : Stmt := (topS 42)
def d__law_drawn_pairs : He.DefD := ⟨("_law_drawn_pairs", none), "_law_drawn_pairs", "_law_drawn_pairs", defArgs s__law_drawn_pairs, defBody s__law_drawn_pairs, defScope s__law_drawn_pairs, [], []⟩
abbrev s__law_floor_by : Stmt := (topS 43)
def d__law_floor_by : He.DefD := ⟨("_law_floor_by", none), "_law_floor_by", "_law_floor_by", defArgs s__law_floor_by, defBody s__law_floor_by, defScope s__law_floor_by, [], []⟩
abbrev s__law_order : Stmt := (topS 44)
def d__law_order : He.DefD := ⟨("_law_order", none), "_law_order", "_law_order", defArgs s__law_order, defBody s__law_order, defScope s__law_order, [], []⟩
abbrev s__law_told : Stmt := (topS 45)
def d__law_told : He.DefD := ⟨("_law_told", none), "_law_told", "_law_told", defArgs s__law_told, defBody s__law_told, defScope s__law_told, [], []⟩
abbrev s__law_first : Stmt := (topS 46)
def d__law_first : He.DefD := ⟨("_law_first", none), "_law_first", "_law_first", defArgs s__law_first, defBody s__law_first, defScope s__law_first, [], []⟩
abbrev s__law_handed : Stmt := (topS 47)
def d__law_handed : He.DefD := ⟨("_law_handed", none), "_law_handed", "_law_handed", defArgs s__law_handed, defBody s__law_handed, defScope s__law_handed, [], []⟩
abbrev s__law_step : Stmt := (topS 48)
def d__law_step : He.DefD := ⟨("_law_step", none), "_law_step", "_law_step", defArgs s__law_step, defBody s__law_step, defScope s__law_step, [], []⟩
abbrev s__law_numbers : Stmt := (topS 49)
def d__law_numbers : He.DefD := ⟨("_law_numbers", none), "_law_numbers", "_law_numbers", defArgs s__law_numbers, defBody s__law_numbers, defScope s__law_numbers, [], []⟩
abbrev s__law_marks : Stmt := (topS 50)
def d__law_marks : He.DefD := ⟨("_law_marks", none), "_law_marks", "_law_marks", defArgs s__law_marks, defBody s__law_marks, defScope s__law_marks, [], []⟩
abbrev s__law_alone : Stmt := (topS 51)
def d__law_alone : He.DefD := ⟨("_law_alone", none), "_law_alone", "_law_alone", defArgs s__law_alone, defBody s__law_alone, defScope s__law_alone, [], []⟩
abbrev s__law_turns : Stmt := (topS 52)
def d__law_turns : He.DefD := ⟨("_law_turns", none), "_law_turns", "_law_turns", defArgs s__law_turns, defBody s__law_turns, defScope s__law_turns, [], []⟩
abbrev s__law_asked : Stmt := (topS 53)
def d__law_asked : He.DefD := ⟨("_law_asked", none), "_law_asked", "_law_asked", defArgs s__law_asked, defBody s__law_asked, defScope s__law_asked, [], []⟩
abbrev s__law_changes : Stmt := (topS 54)
def d__law_changes : He.DefD := ⟨("_law_changes", none), "_law_changes", "_law_changes", defArgs s__law_changes, defBody s__law_changes, defScope s__law_changes, [], []⟩
abbrev s_law : Stmt := (topS 55)
def d_law : He.DefD := ⟨("law", none), "law", "law", defArgs s_law, defBody s_law, defScope s_law, [], []⟩
def hfn0 : List He.DefD := [d_is_place, d_in_order, d_places_beside, d_corners_of, d_places_round, d_is_row, d_are_rows, d_cells_in, d_hang_together, d_places_without_cell, d_Floor_m_init, d_Floor_m_rows, d_Floor_m_has, d_Floor_m_cells, d_Floor_m_beside, d_Floor_m_corners, d_Floor_m_inner, d_Floor_m_is_inner, d_is_piece, d_partners_in, d_laying_by, d_turns_by, d_turns_of, d_pieces_after, d_turned_at, d__law_cell_at, d__law_mixed, d__law_turned_rows, d__law_rows_by, d__law_pairs_flat]
def hfn1 : List He.DefD := [d__law_turn, d__law_drawn_pairs, d__law_floor_by, d__law_order, d__law_told, d__law_first, d__law_handed, d__law_step, d__law_numbers, d__law_marks, d__law_alone, d__law_turns, d__law_asked, d__law_changes, d_law]
def hfn : List He.DefD := hfn0 ++ hfn1
def hfa0 : List He.Fa := [.glo "is_place", .glo "in_order", .glo "places_beside", .glo "corners_of", .glo "places_round", .glo "is_row", .glo "are_rows", .glo "cells_in", .glo "hang_together", .glo "places_without_cell", .glo "is_piece", .glo "partners_in", .glo "laying_by", .glo "turns_by", .glo "turns_of", .glo "pieces_after", .glo "turned_at", .glo "_law_cell_at", .glo "_law_mixed", .glo "_law_turned_rows", .glo "_law_rows_by", .glo "_law_pairs_flat", .glo "_law_turn", .glo "_law_drawn_pairs", .glo "_law_floor_by", .glo "_law_order", .glo "_law_told", .glo "_law_first", .glo "_law_handed", .glo "_law_step"]
def hfa1 : List He.Fa := [.glo "_law_numbers", .glo "_law_marks", .glo "_law_alone", .glo "_law_turns", .glo "_law_asked", .glo "_law_changes", .glo "law", .glo "FloorError", .glo "BadFloor", .glo "Parted", .glo "Holed", .glo "NoCell", .glo "BadLaying", .glo "NoLaying", .glo "NoHeights", .glo "NoTurn", .glo "BadText", .glo "Floor", .cls "Floor", .mkr "Floor", .noat "Floor" "_rows", .noat "Floor" "_cells", .noat "Floor" "_known", .meth "Floor" "rows", .meth "Floor" "has", .meth "Floor" "cells", .meth "Floor" "beside", .meth "Floor" "corners", .meth "Floor" "inner", .meth "Floor" "_is_inner"]
def hfa2 : List He.Fa := [.exc "FloorError", .exc "BadFloor", .exc "Parted", .exc "Holed", .exc "NoCell", .exc "BadLaying", .exc "NoLaying", .exc "NoHeights", .exc "NoTurn", .exc "BadText", .int "LONGEST" 6, .str "CELL_SIGN" "#", .str "SIGNS" "#.", .free "ValueError", .free "abs", .free "all", .free "dict", .free "enumerate", .free "int", .free "isinstance", .free "len", .free "list", .free "max", .free "min", .free "range", .free "sorted", .free "str", .free "sum", .free "tuple", .free "type"]
def hfa : List He.Fa := hfa0 ++ hfa1 ++ hfa2
def hloose0 : List Str := ["FloorError", "BadFloor", "Parted", "Holed", "NoCell", "BadLaying", "NoLaying", "NoHeights", "NoTurn", "BadText", "LONGEST", "CELL_SIGN", "SIGNS", "is_place", "in_order", "places_beside", "corners_of", "places_round", "is_row", "are_rows", "cells_in", "hang_together", "places_without_cell", "Floor", "is_piece", "partners_in", "laying_by", "turns_by", "turns_of", "pieces_after"]
def hloose1 : List Str := ["turned_at", "_law_cell_at", "_law_mixed", "_law_turned_rows", "_law_rows_by", "_law_pairs_flat", "_law_turn", "_law_drawn_pairs", "_law_floor_by", "_law_order", "_law_told", "_law_first", "_law_handed", "_law_step", "_law_numbers", "_law_marks", "_law_alone", "_law_turns", "_law_asked", "_law_changes"]
def hloose : List Str := hloose0 ++ hloose1
def htf : List He.Defn := [("in_order", none)]
def hexc0 : List Str := ["FloorError", "BadFloor", "Parted", "Holed", "NoCell", "BadLaying", "NoLaying", "NoHeights", "NoTurn", "BadText"]
def hexc : List Str := hexc0
def hsub0 : List (Str × Str × Bool) := [("FloorError", "FloorError", true), ("FloorError", "BadFloor", false), ("FloorError", "Parted", false), ("FloorError", "Holed", false), ("FloorError", "NoCell", false), ("FloorError", "BadLaying", false), ("FloorError", "NoLaying", false), ("FloorError", "NoHeights", false), ("FloorError", "NoTurn", false), ("FloorError", "BadText", false), ("BadFloor", "FloorError", true), ("BadFloor", "BadFloor", true), ("BadFloor", "Parted", false), ("BadFloor", "Holed", false), ("BadFloor", "NoCell", false), ("BadFloor", "BadLaying", false), ("BadFloor", "NoLaying", false), ("BadFloor", "NoHeights", false), ("BadFloor", "NoTurn", false), ("BadFloor", "BadText", false), ("Parted", "FloorError", true), ("Parted", "BadFloor", false), ("Parted", "Parted", true), ("Parted", "Holed", false), ("Parted", "NoCell", false), ("Parted", "BadLaying", false), ("Parted", "NoLaying", false), ("Parted", "NoHeights", false), ("Parted", "NoTurn", false), ("Parted", "BadText", false)]
def hsub1 : List (Str × Str × Bool) := [("Holed", "FloorError", true), ("Holed", "BadFloor", false), ("Holed", "Parted", false), ("Holed", "Holed", true), ("Holed", "NoCell", false), ("Holed", "BadLaying", false), ("Holed", "NoLaying", false), ("Holed", "NoHeights", false), ("Holed", "NoTurn", false), ("Holed", "BadText", false), ("NoCell", "FloorError", true), ("NoCell", "BadFloor", false), ("NoCell", "Parted", false), ("NoCell", "Holed", false), ("NoCell", "NoCell", true), ("NoCell", "BadLaying", false), ("NoCell", "NoLaying", false), ("NoCell", "NoHeights", false), ("NoCell", "NoTurn", false), ("NoCell", "BadText", false), ("BadLaying", "FloorError", true), ("BadLaying", "BadFloor", false), ("BadLaying", "Parted", false), ("BadLaying", "Holed", false), ("BadLaying", "NoCell", false), ("BadLaying", "BadLaying", true), ("BadLaying", "NoLaying", false), ("BadLaying", "NoHeights", false), ("BadLaying", "NoTurn", false), ("BadLaying", "BadText", false)]
def hsub2 : List (Str × Str × Bool) := [("NoLaying", "FloorError", true), ("NoLaying", "BadFloor", false), ("NoLaying", "Parted", false), ("NoLaying", "Holed", false), ("NoLaying", "NoCell", false), ("NoLaying", "BadLaying", false), ("NoLaying", "NoLaying", true), ("NoLaying", "NoHeights", false), ("NoLaying", "NoTurn", false), ("NoLaying", "BadText", false), ("NoHeights", "FloorError", true), ("NoHeights", "BadFloor", false), ("NoHeights", "Parted", false), ("NoHeights", "Holed", false), ("NoHeights", "NoCell", false), ("NoHeights", "BadLaying", false), ("NoHeights", "NoLaying", false), ("NoHeights", "NoHeights", true), ("NoHeights", "NoTurn", false), ("NoHeights", "BadText", false), ("NoTurn", "FloorError", true), ("NoTurn", "BadFloor", false), ("NoTurn", "Parted", false), ("NoTurn", "Holed", false), ("NoTurn", "NoCell", false), ("NoTurn", "BadLaying", false), ("NoTurn", "NoLaying", false), ("NoTurn", "NoHeights", false), ("NoTurn", "NoTurn", true), ("NoTurn", "BadText", false)]
def hsub3 : List (Str × Str × Bool) := [("BadText", "FloorError", true), ("BadText", "BadFloor", false), ("BadText", "Parted", false), ("BadText", "Holed", false), ("BadText", "NoCell", false), ("BadText", "BadLaying", false), ("BadText", "NoLaying", false), ("BadText", "NoHeights", false), ("BadText", "NoTurn", false), ("BadText", "BadText", true)]
def hsub : List (Str × Str × Bool) := hsub0 ++ hsub1 ++ hsub2 ++ hsub3
/-- what isinstance asks of an exception's class -/
def isxB (K : PySem.W.Frag) (D : Addr) : Bool :=
  decide (PySem.W.findIn K (.ref D) "__getattribute__" = some (some (.builtin "BaseException.__getattribute__"))) &&
  decide (PySem.W.findIn K (.ref D) "__getattr__" = some none) && decide (PySem.W.subIn K (.ref D) (.type "BaseException") = some true) &&
  PySem.W.hasDictIn K D && decide (PySem.W.findIn K (.ref D) "__class__" = some (some (.builtin "object.__class__"))) &&
  decide (PySem.W.specialIn K (.builtin "object.__class__") "__get__" = some (some (.builtin "getset_descriptor.__get__"))) &&
  decide (PySem.W.takesIn K (.builtin "object.__class__") = some true) && decide (PySem.W.mroIn K D (.type "object") = some true)
def hex (K : PySem.W.Frag) : Bool :=
  (hexc.all fun x => isxB K (He.ga K x)) &&
  (hsub.all fun t => decide (PySem.W.kitOne K (.ref (He.ga K t.1)) (.ref (He.ga K t.2.1)) = some t.2.2)) &&
  (hexc.all fun x => decide (PySem.W.kitOne K (.ref (He.ga K x)) (.type "ValueError") = some true)) &&
  (hsub.all fun t => decide (PySem.W.exmOne K (.ref (He.ga K t.1)) (.ref (He.ga K t.2.1)) = some t.2.2))
abbrev R : PySem.W.OpenRow := PySem.W.OpenLaw.row PySem.Challenge.rw_turnfloor_k06_turns_told
abbrev hk : PySem.W.Hook := He.hookX 5 hfa hfn [] htf hex
def ob (s : PySem.W.SharedT) : He.AlX := He.obsX 5 hfa hfn [] htf hex (HandSHeadRun.getT s)
theorem ob_eq (s : PySem.W.SharedT) : ob s = hk.obs s.abs := He.obsX_eq (HandSHeadRun.getT_eq s)
theorem run (w : World) : HandSHeadRun.RunEq R (PySem.W.view R.prog [55]) hk ob 20000 hloose w := by
  intro os
  kernel_rfl
end Tf

local macro_rules | `(tactic| wtm_at "tf_noj") => `(tactic| (
  fail_if_success with_reducible show Tf.Ex _ _ _ _
  fail_if_success with_reducible show Tf.ExN _ _ _ _
  fail_if_success with_reducible show Tf.Et _ _ _ _
  fail_if_success with_reducible show Tf.Ei _ _ _ _
  fail_if_success with_reducible show Tf.Ea _ _ _ _
  fail_if_success with_reducible show Tf.Exs _ _ _ _
  fail_if_success with_reducible show Tf.Bd _ _ _
  fail_if_success with_reducible show Tf.BdS _ _ _
  fail_if_success with_reducible show Tf.Eo _ _ _ _))
local macro_rules | `(tactic| wtm_at "tf_sd") => `(tactic| first
  | ((with_reducible refine Tf.chk_prop ?_); first | exact True.intro | rfl | assumption | exact Nat.le_of_ble_eq_true rfl | decide | omega | (exact ⟨by omega, by omega⟩) | (simp only [Tf.rangeI_length, Tf.enumI_length, List.length_map, List.length_append, List.length_cons, List.length_nil, Tf.rep_length]; omega))
  | infer_instance)
local macro_rules | `(tactic| wtm_at "tf_go") => `(tactic| first
  | ((with_reducible show Tf.Ex _ _ _ _); wtm_at "tf_ex")
  | ((with_reducible show Tf.ExN _ _ _ _); wtm_at "tf_exN")
  | ((with_reducible show Tf.Et _ _ _ _); wtm_at "tf_et")
  | ((with_reducible show Tf.Ei _ _ _ _); wtm_at "tf_ei")
  | ((with_reducible show Tf.Ea _ _ _ _); wtm_at "tf_ea")
  | ((with_reducible show Tf.Exs _ _ _ _); wtm_at "tf_exs")
  | ((with_reducible show Tf.Bd _ _ _); wtm_at "tf_bd")
  | ((with_reducible show Tf.BdS _ _ _); wtm_at "tf_bd")
  | ((with_reducible show Tf.Eo _ _ _ _); wtm_at "tf_eo")
  | (wtm_at "tf_noj"; wtm_at "tf_sd")
  | (wtm_at "tf_noj"; (with_reducible refine Tf.chk_prop ?_); intro _; wtm_at "tf_go")
  | wtm_at "tf_noj")
local macro_rules | `(tactic| wtm_at "tf_bd") => `(tactic| first
  | exact Tf.bd_name
  | exact Tf.bds_nil
  | (refine' Tf.bd_tup (Tf.bds_cons ?_ (Tf.bds_cons ?_ Tf.bds_nil)) <;> wtm_at "tf_go")
  | (refine' Tf.bd_tup (Tf.bds_cons ?_ (Tf.bds_cons ?_ (Tf.bds_cons ?_ Tf.bds_nil))) <;> wtm_at "tf_go"))
local macro_rules | `(tactic| wtm_at "tf_ea") => `(tactic| first
  | exact Tf.ea_nil'
  | ((with_reducible refine' Tf.ea_cons' ?_ ?_) <;> wtm_at "tf_go"))
local macro_rules | `(tactic| wtm_at "tf_exs") => `(tactic| first
  | exact Tf.exs_nil
  | ((with_reducible refine' Tf.exs_cons ?_ ?_) <;> wtm_at "tf_go"))
local macro_rules | `(tactic| wtm_at "tf_et") => `(tactic| first
  | exact Tf.et_yes
  | ((with_reducible refine' Tf.et_of' ?_) <;> wtm_at "tf_go")
  | ((with_reducible refine' Tf.et_test' ?_) <;> wtm_at "tf_go")
  | ((with_reducible refine' Tf.et_tr' ?_) <;> wtm_at "tf_go")
  | ((with_reducible refine' Tf.et_trL' ?_) <;> wtm_at "tf_go")
  | ((with_reducible refine' Tf.et_and' ?_ ?_) <;> wtm_at "tf_go")
  | ((with_reducible refine' Tf.et_or' ?_ ?_) <;> wtm_at "tf_go")
  | ((with_reducible refine' Tf.et_not' ?_) <;> wtm_at "tf_go"))
local macro_rules | `(tactic| wtm_at "tf_ei") => `(tactic| first
  | ((with_reducible refine' Tf.ei_list' ?_) <;> wtm_at "tf_go")
  | ((with_reducible refine' Tf.ei_tup' ?_) <;> wtm_at "tf_go")
  | ((with_reducible refine' Tf.ei_str' ?_) <;> wtm_at "tf_go")
  | ((with_reducible refine' Tf.ei_range1' ?_ ?_) <;> wtm_at "tf_go")
  | ((with_reducible refine' Tf.ei_range2' ?_ ?_ ?_) <;> wtm_at "tf_go")
  | ((with_reducible refine' Tf.ei_enumL' ?_) <;> wtm_at "tf_go")
  | ((with_reducible refine' Tf.ei_enumS' ?_) <;> wtm_at "tf_go"))
local macro_rules | `(tactic| wtm_at "tf_eo") => `(tactic| first
  | exact Tf.eo_none
  | ((refine' Tf.eo_some ?_) <;> wtm_at "tf_go"))
local macro_rules | `(tactic| wtm_at "tf_exN") => `(tactic| first
  | exact Tf.exN_nilX
  | exact Tf.exN_dnewK
  | ((with_reducible refine' Tf.exN_slice ?_ ?_ ?_) <;> wtm_at "tf_go")
  | ((with_reducible refine' Tf.exN_listV ?_) <;> wtm_at "tf_go")
  | ((with_reducible refine' Tf.exN_listS ?_ ?_) <;> wtm_at "tf_go")
  | ((with_reducible refine' Tf.exN_rep ?_ ?_ ?_) <;> wtm_at "tf_go")
  | ((with_reducible refine' Tf.exN_lst ?_ ?_) <;> wtm_at "tf_go")
  | ((with_reducible refine' Tf.exN_lstX ?_ ?_) <;> wtm_at "tf_go")
  | ((with_reducible refine' Tf.exN_listOf ?_) <;> wtm_at "tf_go")
  | ((with_reducible refine' Tf.exN_lc1 ?_ ?_ ?_ ?_ ?_) <;> wtm_at "tf_go")
  | ((with_reducible refine' Tf.exN_lc ?_ ?_ ?_ ?_ ?_ ?_) <;> wtm_at "tf_go")
  | ((with_reducible refine' Tf.exN_sortP ?_) <;> wtm_at "tf_go")
  | ((with_reducible refine' Tf.exN_call1 ?_ ?_) <;> wtm_at "tf_go")
  | ((with_reducible refine' Tf.exN_m0 ?_ ?_ ?_ ?_) <;> wtm_at "tf_go")
  | ((with_reducible refine' Tf.exN_beside ?_ ?_ ?_ ?_ ?_) <;> wtm_at "tf_go"))
local macro_rules | `(tactic| wtm_at "tf_ex") => `(tactic| first
  | exact Tf.ex_var rfl
  | exact Tf.ex_int
  | exact Tf.ex_bool
  | exact Tf.ex_str
  | exact Tf.ex_none
  | ((with_reducible refine' Tf.ex_add ?_ ?_) <;> wtm_at "tf_go")
  | ((with_reducible refine' Tf.ex_cat ?_ ?_ ?_) <;> wtm_at "tf_go")
  | ((with_reducible refine' Tf.ex_catR ?_ ?_ ?_) <;> wtm_at "tf_go")
  | ((with_reducible refine' Tf.ex_catS ?_ ?_ ?_) <;> wtm_at "tf_go")
  | ((with_reducible refine' Tf.ex_catX ?_ ?_ ?_) <;> wtm_at "tf_go")
  | ((with_reducible refine' Tf.ex_sub ?_ ?_) <;> wtm_at "tf_go")
  | ((with_reducible refine' Tf.ex_mul ?_ ?_ ?_) <;> wtm_at "tf_go")
  | ((with_reducible refine' Tf.ex_mod ?_ ?_ ?_) <;> wtm_at "tf_go")
  | ((with_reducible refine' Tf.ex_fdiv ?_ ?_ ?_) <;> wtm_at "tf_go")
  | ((with_reducible refine' Tf.ex_neg ?_) <;> wtm_at "tf_go")
  | ((with_reducible refine' Tf.ex_lt ?_ ?_) <;> wtm_at "tf_go")
  | ((with_reducible refine' Tf.ex_ltP ?_ ?_) <;> wtm_at "tf_go")
  | ((with_reducible refine' Tf.ex_le ?_ ?_) <;> wtm_at "tf_go")
  | ((with_reducible refine' Tf.ex_gt ?_ ?_) <;> wtm_at "tf_go")
  | ((with_reducible refine' Tf.ex_ge ?_ ?_) <;> wtm_at "tf_go")
  | ((with_reducible refine' Tf.ex_chain ?_ ?_ ?_) <;> wtm_at "tf_go")
  | ((with_reducible refine' Tf.ex_max2 ?_ ?_) <;> wtm_at "tf_go")
  | ((with_reducible refine' Tf.ex_min2 ?_ ?_) <;> wtm_at "tf_go")
  | ((with_reducible refine' Tf.ex_eqI ?_ ?_) <;> wtm_at "tf_go")
  | ((with_reducible refine' Tf.ex_neI ?_ ?_) <;> wtm_at "tf_go")
  | ((with_reducible refine' Tf.ex_eqP ?_ ?_) <;> wtm_at "tf_go")
  | ((with_reducible refine' Tf.ex_neP ?_ ?_) <;> wtm_at "tf_go")
  | ((with_reducible refine' Tf.ex_sign ?_) <;> wtm_at "tf_go")
  | ((with_reducible refine' Tf.ex_eqG ?_ ?_ ?_ ?_ ?_) <;> wtm_at "tf_go")
  | ((with_reducible refine' Tf.ex_neG ?_ ?_ ?_ ?_ ?_) <;> wtm_at "tf_go")
  | ((with_reducible refine' Tf.ex_in ?_ ?_) <;> wtm_at "tf_go")
  | ((with_reducible refine' Tf.ex_notin ?_ ?_) <;> wtm_at "tf_go")
  | ((with_reducible refine' Tf.ex_inD ?_ ?_) <;> wtm_at "tf_go")
  | ((with_reducible refine' Tf.ex_notinD ?_ ?_) <;> wtm_at "tf_go")
  | ((with_reducible refine' Tf.ex_andV ?_ ?_) <;> wtm_at "tf_go")
  | ((with_reducible refine' Tf.ex_orV ?_ ?_) <;> wtm_at "tf_go")
  | ((with_reducible refine' Tf.ex_notV ?_) <;> wtm_at "tf_go")
  | ((with_reducible refine' Tf.ex_ifT ?_ ?_ ?_) <;> wtm_at "tf_go")
  | ((with_reducible refine' Tf.ex_pair ?_ ?_) <;> wtm_at "tf_go")
  | ((with_reducible refine' Tf.ex_tupX ?_ ?_) <;> wtm_at "tf_go")
  | ((with_reducible refine' Tf.ex_ix0 ?_) <;> wtm_at "tf_go")
  | ((with_reducible refine' Tf.ex_ix1 ?_) <;> wtm_at "tf_go")
  | ((with_reducible refine' Tf.ex_ixG ?_ ?_ ?_ ?_) <;> wtm_at "tf_go")
  | ((with_reducible refine' Tf.ex_ixR ?_ ?_ ?_) <;> wtm_at "tf_go")
  | ((with_reducible refine' Tf.ex_ixX ?_ ?_ ?_) <;> wtm_at "tf_go")
  | ((with_reducible refine' Tf.ex_dGetG ?_ ?_ ?_ ?_) <;> wtm_at "tf_go")
  | ((with_reducible refine' Tf.ex_len ?_) <;> wtm_at "tf_go")
  | ((with_reducible refine' Tf.ex_lenD ?_) <;> wtm_at "tf_go")
  | ((with_reducible refine' Tf.ex_lenR ?_ ?_) <;> wtm_at "tf_go")
  | ((with_reducible refine' Tf.ex_lenS ?_ ?_) <;> wtm_at "tf_go")
  | ((with_reducible refine' Tf.ex_lenT ?_) <;> wtm_at "tf_go")
  | ((with_reducible refine' Tf.ex_all ?_) <;> wtm_at "tf_go")
  | ((with_reducible refine' Tf.ex_any ?_) <;> wtm_at "tf_go")
  | ((with_reducible refine' Tf.ex_sumP ?_) <;> wtm_at "tf_go")
  | ((with_reducible refine' Tf.ex_call1 ?_ ?_) <;> wtm_at "tf_go")
  | ((with_reducible refine' Tf.ex_call2 ?_ ?_ ?_) <;> wtm_at "tf_go")
  | ((with_reducible refine' Tf.ex_call3 ?_ ?_ ?_ ?_) <;> wtm_at "tf_go")
  | (refine' Tf.ex_cellAt rfl ?_ ?_ <;> wtm_at "tf_go")
  | exact Tf.ex_callC rfl
  | ((with_reducible refine' Tf.ex_m0 ?_ ?_ ?_ ?_) <;> wtm_at "tf_go")
  | ((with_reducible refine' Tf.ex_m1 ?_ ?_ ?_ ?_ ?_) <;> wtm_at "tf_go")
  | ((with_reducible refine' Tf.ex_joinR ?_ ?_) <;> wtm_at "tf_go")
  | ((with_reducible refine' Tf.ex_mulR ?_ ?_ ?_) <;> wtm_at "tf_go")
  | ((with_reducible refine' Tf.ex_mulRs ?_ ?_ ?_) <;> wtm_at "tf_go")
  | ((with_reducible refine' Tf.ex_mulS ?_ ?_ ?_) <;> wtm_at "tf_go")
  | ((with_reducible refine' Tf.ex_sliceR ?_ ?_ ?_ ?_) <;> wtm_at "tf_go")
  | ((with_reducible refine' Tf.ex_sliceS ?_ ?_ ?_ ?_) <;> wtm_at "tf_go")
  | ((with_reducible refine' Tf.ex_tupleOf ?_) <;> wtm_at "tf_go")
  | ((with_reducible refine' Tf.ex_joinS ?_ ?_ ?_) <;> wtm_at "tf_go")
  | ((with_reducible refine' Tf.ex_joinSS ?_ ?_ ?_) <;> wtm_at "tf_go")
  | ((with_reducible refine' Tf.ExN.ex ?_) <;> wtm_at "tf_go")
  | ((with_reducible refine' Tf.ex_keys ?_) <;> wtm_at "tf_go")
  | ((with_reducible refine' Tf.ex_keysV ?_) <;> wtm_at "tf_go"))
local macro_rules | `(tactic| wtm_at "tf_less") => `(tactic| repeat' first | exact True.intro | refine And.intro (Or.inr rfl) ?_ | refine And.intro (Or.inl rfl) ?_)
local macro_rules | `(tactic| wtm_at "tf_run") => `(tactic| first
  | ((with_reducible apply Tf.r_seq); wtm_at "tf_run")
  | ((with_reducible refine' Tf.r_asg (Tf.es_hid ?_) ?_) <;> wtm_at "tf_go")
  | ((with_reducible refine' Tf.r_par (Tf.es_hid ?_) (Tf.es_hid ?_) ?_) <;> wtm_at "tf_go")
  | ((with_reducible refine' Tf.r_asgT (Tf.es_hid ?_) ?_ ?_) <;> wtm_at "tf_go")
  | (with_reducible refine' Tf.r_if ?_ ?_ ?_; wtm_at "tf_go"))
namespace Tf
open PySem PySem.Spec PyProof.Rows L2 Dt
def n_is_place : List Str := ["thing", "x", "y"]
theorem sc_is_place : FnScope n_is_place ["thing"] (defScope s_is_place) := ⟨rfl, rfl, rfl, by decide +kernel, rfl, by decide +kernel, by decide +kernel⟩
theorem ok_is_place {P : Program} {w : World} {K : PySem.W.Frag} {mg : Str → Option Value} {base : Heap} (Z : Top hfa hfn K mg) :
    ∃ fd, Fd P w K mg base CX0 1 "is_place" (He.ga K "is_place") fd ["thing"] (sp_is_place K) := by
  obtain ⟨fd, F⟩ := Z.def_ 0 (d := d_is_place) rfl
  refine ⟨fd, FunD.ok F sc_is_place (fun vs H Q E h => len1 h) fun cdv A outer s H vs Q E hr h => ?_, Z.glo 0 (x := "is_place") rfl, F.kp, FunD.bindsN F (ps := ["thing"]) fun _ _ _ _ _ _ us hl => match us, hl with | [_], _ => rfl⟩
  have hu0 := hr.units0
  have hu1 := hu_of hr
  have hu64 := hr.units
  have hu65 := hu65_of hr
  refine ⟨_, PSs.nox (pss_cons (ps_if (PW.pt (pw_or (pt_cmp (pc_op uop_isnot (pe_callTy (crK rTyp K call_type1) (by rfl) (Z.free 89 (x := "type") rfl) (by decide +kernel) (pa_cons (pv 0) pa_nil)) (pe_bltn (by rfl) (Z.free 88 (x := "tuple") rfl) (by decide +kernel) (v := .ty "tuple") rfl))) (pw_or1 (pt_cmp (pc_op (opK rNeD K (op_neD hu64)) (pe_callB (crK rLenU K ucall_len) (by rfl) (Z.free 80 (x := "len") rfl) (by decide +kernel) (pa_cons (pv 0) pa_nil)) pe_int))))) (pss_one (ps_ret pe_bl)) pss_nil)
      (pss_cons (ps_asg (pv 0) (pg_tupK K (n := 2) rfl (pgs_cons (pg_name (i := 1) sc_is_place.nd rfl (Or.inl rfl)) (pgs_cons (pg_name (i := 2) sc_is_place.nd rfl (Or.inl rfl)) pgs_nil))))
      (pss_one (ps_ret (pe_and (pe_cmp (pc_op uop_is (pe_callTy (crK rTyp K call_type1) (by rfl) (Z.free 89 (x := "type") rfl) (by decide +kernel) (pa_cons (pv 1) pa_nil)) (pe_bltn (by rfl) (Z.free 78 (x := "int") rfl) (by decide +kernel) (v := .ty "int") rfl))) (pe_one (pe_cmp (pc_op uop_is (pe_callTy (crK rTyp K call_type1) (by rfl) (Z.free 89 (x := "type") rfl) (by decide +kernel) (pa_cons (pv 2) pa_nil)) (pe_bltn (by rfl) (Z.free 78 (x := "int") rfl) (by decide +kernel) (v := .ty "int") rfl))))))))), ?_⟩
  refine pu1 h fun F v x hv r pre st k => ?_
  subst hv
  refine s_if (b := !isT2 x) ?_ st (fun hb H1 s1 st1 => ?_) fun hb H1 s1 st1 => ?_
  · by_cases e : tyName x = "tuple"
    · have hx : ∃ es, x = .tuple es := by
        cases x <;> simp_all [tyName]
      obtain ⟨es, rfl⟩ := hx
      refine evT_eq (et_or (et_of (ev_typeIs (x := PyData.tuple es) (ev_var rfl r) rfl)) fun _ => et_of (ev_neD (ev_lenT (ev_var rfl r)) ev_int)) ?_
      have e2 : isT2 (.tuple es) = decide ((es.length : Int) = 2) := by
        match es with
        | [] => rfl
        | [_] => rfl
        | [_, _] => rfl
        | _ :: _ :: _ :: r =>
          simp [isT2]
          omega
      rw [e2]
      simp [tyName, Dt.d]
    · refine evT_eq (et_or (a := true) (b := true) (evT_eq (et_of (ev_typeIs (x := x) (ev_var rfl r) pre.1)) (by simp [Dt.d, e])) fun z => by cases z) ?_
      have e2 : isT2 x = false := by
        cases x <;> simp_all [tyName, isT2]
      rw [e2]
      rfl
  · refine s_ret (x := isPlaceD x) ?_ st1 k
    have e2 : isPlaceD x = false := by
      unfold isPlaceD
      split
      · simp [isT2] at hb
      · rfl
    rw [e2]
    exact ev_bool
  · obtain ⟨a, b, rfl⟩ := isT2_spec (x := x) (by simpa using hb)
    obtain ⟨_, p2⟩ := pre
    obtain ⟨pa, pb⟩ := p2 a b rfl
    dsimp only
    refine s_twoD (ev_var rfl r) st1 fun u w F2 H2 s2 st2 ru rw_ => ?_
    dsimp only
    refine s_ret (x := isPlaceD (.tuple [a, b])) ?_ st2 k
    rw [place_ty]
    exact ev_andV (ev_typeIs (x := a) (ev_var rfl ru) pa) fun _ => ev_typeIs (x := b) (ev_var rfl rw_) pb
def n_in_order : List Str := ["places"]
theorem sc_in_order : FnScope n_in_order ["places"] (defScope s_in_order) := ⟨rfl, rfl, rfl, by decide +kernel, rfl, by decide +kernel, by decide +kernel⟩
theorem ok_in_order {P : Program} {w : World} {K : PySem.W.Frag} {mg : Str → Option Value} {base : Heap} (Z : Top hfa hfn K mg) (TB : LamX.TabB base mg (He.cT K ("in_order", none)).1 (He.cT K ("in_order", none)).2) :
    ∃ fd, Fd P w K mg base CX0 1 "in_order" (He.ga K "in_order") fd ["places"] (sp_in_order K) := by
  obtain ⟨fd, F⟩ := Z.def_ 1 (d := d_in_order) rfl
  have hb : Binds K fd ["places"] [] := FunD.bindsN F (ps := ["places"]) fun _ _ _ _ _ _ us hl => match us, hl with | [_], _ => rfl
  obtain ⟨oc, od, dV, kV, doc, pm, an, cdv, ct, osl, rfl, lk, hcd, hD, hK⟩ := F.ex
  obtain ⟨c, rfl⟩ := He.codeIn_ref hcd
  have ec : He.codeOf K ("in_order", none) = c := He.codeOf_eq lk rfl
  refine ⟨_, fn_of lk hcd sc_in_order (fun vs H Q E h => lenN1 h) fun A outer s H vs Q E hr h => ?_, Z.glo 1 (x := "in_order") rfl, F.kp, hb⟩
  refine ⟨_, PSs.nox (pss_one (ps_ret (pe_sortLam (T := tabs K) (Z.free 85 (x := "sorted") rfl) (pa_cons (pv 0) pa_nil) hr TB (by show Value.ref c = Value.ref (He.cT K ("in_order", none)).1; rw [← ec]; rfl) (List.mem_singleton.mpr rfl) (fun p hp _ => by rw [List.mem_singleton.mp hp]; rfl) rfl rfl rfl rfl (by decide +kernel) rfl (by decide) (fun _ _ _ _ _ => rfl)))), ?_⟩
  refine puN1 h fun F v ps hv r _ st k => ?_
  subst hv
  exact s_retN (x := inOrder ps) (ev_sortPN (ev_var rfl r)) st k
def n_places_beside : List Str := ["place", "x", "y"]
theorem sc_places_beside : FnScope n_places_beside ["place"] (defScope s_places_beside) := ⟨rfl, rfl, rfl, by decide +kernel, rfl, by decide +kernel, by decide +kernel⟩
theorem ok_places_beside {P : Program} {w : World} {K : PySem.W.Frag} {mg : Str → Option Value} {base : Heap} (Z : Top hfa hfn K mg) :
    ∃ fd, Fd P w K mg base CX0 1 "places_beside" (He.ga K "places_beside") fd ["place"] (sp_places_beside K) := by
  obtain ⟨fd, F⟩ := Z.def_ 2 (d := d_places_beside) rfl
  refine ⟨fd, FunD.ok F sc_places_beside (fun vs H Q E h => len1 h) fun cdv A outer s H vs Q E hr h => ?_, Z.glo 2 (x := "places_beside") rfl, F.kp, FunD.bindsN F (ps := ["place"]) fun _ _ _ _ _ _ us hl => match us, hl with | [_], _ => rfl⟩
  have hu0 := hr.units0
  have hu1 := hu_of hr
  have hu64 := hr.units
  have hu65 := hu65_of hr
  refine ⟨_, PSs.nox (pss_cons (ps_asg (pv 0) (pg_tupK K (n := 2) rfl (pgs_cons (pg_name (i := 1) sc_places_beside.nd rfl (Or.inl rfl)) (pgs_cons (pg_name (i := 2) sc_places_beside.nd rfl (Or.inl rfl)) pgs_nil))))
      (pss_one (ps_ret (pe_lst (pa_cons (pe_tup (pa_cons (pv 1) (pa_cons (pe_op op_sub (pv 2) pe_int) pa_nil))) (pa_cons (pe_tup (pa_cons (pe_op op_sub (pv 1) pe_int) (pa_cons (pv 2) pa_nil))) (pa_cons (pe_tup (pa_cons (pe_op uop_add (pv 1) pe_int) (pa_cons (pv 2) pa_nil))) (pa_cons (pe_tup (pa_cons (pv 1) (pa_cons (pe_op uop_add (pv 2) pe_int) pa_nil))) pa_nil)))))))), ?_⟩
  refine pu1 h fun F v p hv r _ st k => ?_
  subst hv
  refine s_two (ev_var rfl r) st fun F1 H1 s1 st1 => ?_
  dsimp only
  refine s_ret (x := beside4 p) ?_ st1 k
  exact ev_list (.cons (ev_pair (ev_var rfl (.int _)) (ev_sub (ev_var rfl (.int _)) ev_int)) (.cons (ev_pair (ev_sub (ev_var rfl (.int _)) ev_int) (ev_var rfl (.int _))) (.cons (ev_pair (ev_add (ev_var rfl (.int _)) ev_int) (ev_var rfl (.int _))) (.cons (ev_pair (ev_var rfl (.int _)) (ev_add (ev_var rfl (.int _)) ev_int)) .nil))))
def n_corners_of : List Str := ["cell", "x", "y"]
theorem sc_corners_of : FnScope n_corners_of ["cell"] (defScope s_corners_of) := ⟨rfl, rfl, rfl, by decide +kernel, rfl, by decide +kernel, by decide +kernel⟩
theorem ok_corners_of {P : Program} {w : World} {K : PySem.W.Frag} {mg : Str → Option Value} {base : Heap} (Z : Top hfa hfn K mg) :
    ∃ fd, Fd P w K mg base CX0 1 "corners_of" (He.ga K "corners_of") fd ["cell"] (sp_corners_of K) := by
  obtain ⟨fd, F⟩ := Z.def_ 3 (d := d_corners_of) rfl
  refine ⟨fd, FunD.ok F sc_corners_of (fun vs H Q E h => len1 h) fun cdv A outer s H vs Q E hr h => ?_, Z.glo 3 (x := "corners_of") rfl, F.kp, FunD.bindsN F (ps := ["cell"]) fun _ _ _ _ _ _ us hl => match us, hl with | [_], _ => rfl⟩
  have hu0 := hr.units0
  have hu1 := hu_of hr
  have hu64 := hr.units
  have hu65 := hu65_of hr
  refine ⟨_, PSs.nox (pss_cons (ps_asg (pv 0) (pg_tupK K (n := 2) rfl (pgs_cons (pg_name (i := 1) sc_corners_of.nd rfl (Or.inl rfl)) (pgs_cons (pg_name (i := 2) sc_corners_of.nd rfl (Or.inl rfl)) pgs_nil))))
      (pss_one (ps_ret (pe_lst (pa_cons (pe_tup (pa_cons (pv 1) (pa_cons (pv 2) pa_nil))) (pa_cons (pe_tup (pa_cons (pe_op uop_add (pv 1) pe_int) (pa_cons (pv 2) pa_nil))) (pa_cons (pe_tup (pa_cons (pv 1) (pa_cons (pe_op uop_add (pv 2) pe_int) pa_nil))) (pa_cons (pe_tup (pa_cons (pe_op uop_add (pv 1) pe_int) (pa_cons (pe_op uop_add (pv 2) pe_int) pa_nil))) pa_nil)))))))), ?_⟩
  refine pu1 h fun F v p hv r _ st k => ?_
  subst hv
  refine s_two (ev_var rfl r) st fun F1 H1 s1 st1 => ?_
  dsimp only
  refine s_ret (x := corners4 p) ?_ st1 k
  exact ev_list (.cons (ev_pair (ev_var rfl (.int _)) (ev_var rfl (.int _))) (.cons (ev_pair (ev_add (ev_var rfl (.int _)) ev_int) (ev_var rfl (.int _))) (.cons (ev_pair (ev_var rfl (.int _)) (ev_add (ev_var rfl (.int _)) ev_int)) (.cons (ev_pair (ev_add (ev_var rfl (.int _)) ev_int) (ev_add (ev_var rfl (.int _)) ev_int)) .nil))))
def n_places_round : List Str := ["corner", "x", "y"]
theorem sc_places_round : FnScope n_places_round ["corner"] (defScope s_places_round) := ⟨rfl, rfl, rfl, by decide +kernel, rfl, by decide +kernel, by decide +kernel⟩
theorem ok_places_round {P : Program} {w : World} {K : PySem.W.Frag} {mg : Str → Option Value} {base : Heap} (Z : Top hfa hfn K mg) :
    ∃ fd, Fd P w K mg base CX0 1 "places_round" (He.ga K "places_round") fd ["corner"] (sp_places_round K) := by
  obtain ⟨fd, F⟩ := Z.def_ 4 (d := d_places_round) rfl
  refine ⟨fd, FunD.ok F sc_places_round (fun vs H Q E h => len1 h) fun cdv A outer s H vs Q E hr h => ?_, Z.glo 4 (x := "places_round") rfl, F.kp, FunD.bindsN F (ps := ["corner"]) fun _ _ _ _ _ _ us hl => match us, hl with | [_], _ => rfl⟩
  have hu0 := hr.units0
  have hu1 := hu_of hr
  have hu64 := hr.units
  have hu65 := hu65_of hr
  refine ⟨_, PSs.nox (pss_cons (ps_asg (pv 0) (pg_tupK K (n := 2) rfl (pgs_cons (pg_name (i := 1) sc_places_round.nd rfl (Or.inl rfl)) (pgs_cons (pg_name (i := 2) sc_places_round.nd rfl (Or.inl rfl)) pgs_nil))))
      (pss_one (ps_ret (pe_lst (pa_cons (pe_tup (pa_cons (pe_op op_sub (pv 1) pe_int) (pa_cons (pe_op op_sub (pv 2) pe_int) pa_nil))) (pa_cons (pe_tup (pa_cons (pv 1) (pa_cons (pe_op op_sub (pv 2) pe_int) pa_nil))) (pa_cons (pe_tup (pa_cons (pe_op op_sub (pv 1) pe_int) (pa_cons (pv 2) pa_nil))) (pa_cons (pe_tup (pa_cons (pv 1) (pa_cons (pv 2) pa_nil))) pa_nil)))))))), ?_⟩
  refine pu1 h fun F v p hv r _ st k => ?_
  subst hv
  refine s_two (ev_var rfl r) st fun F1 H1 s1 st1 => ?_
  dsimp only
  refine s_ret (x := round4 p) ?_ st1 k
  exact ev_list (.cons (ev_pair (ev_sub (ev_var rfl (.int _)) ev_int) (ev_sub (ev_var rfl (.int _)) ev_int)) (.cons (ev_pair (ev_var rfl (.int _)) (ev_sub (ev_var rfl (.int _)) ev_int)) (.cons (ev_pair (ev_sub (ev_var rfl (.int _)) ev_int) (ev_var rfl (.int _))) (.cons (ev_pair (ev_var rfl (.int _)) (ev_var rfl (.int _))) .nil))))
def n_is_row : List Str := ["thing", "sign"]
theorem sc_is_row : FnScope n_is_row ["thing"] (defScope s_is_row) := ⟨rfl, rfl, rfl, by decide +kernel, rfl, by decide +kernel, by decide +kernel⟩
theorem ok_is_row {P : Program} {w : World} {K : PySem.W.Frag} {mg : Str → Option Value} {base : Heap} (Z : Top hfa hfn K mg) :
    ∃ fd, Fd P w K mg base CX0 1 "is_row" (He.ga K "is_row") fd ["thing"] (sp_is_row K) := by
  obtain ⟨fd, F⟩ := Z.def_ 5 (d := d_is_row) rfl
  obtain ⟨t_SIGNS, c_SIGNS⟩ := Z.str 72 (x := "SIGNS") rfl
  obtain ⟨t_LONGEST, c_LONGEST⟩ := Z.int 70 (x := "LONGEST") rfl
  refine ⟨fd, FunD.ok F sc_is_row (fun vs H Q E h => len1 h) fun cdv A outer s H vs Q E hr h => ?_, Z.glo 5 (x := "is_row") rfl, F.kp, FunD.bindsN F (ps := ["thing"]) fun _ _ _ _ _ _ us hl => match us, hl with | [_], _ => rfl⟩
  have hu0 := hr.units0
  have hu1 := hu_of hr
  have hu64 := hr.units
  have hu65 := hu65_of hr
  refine ⟨_, PSs.nox (pss_cons (ps_if (PW.pt (pw_or (pt_cmp (pc_op uop_isnot (pe_callTy (crK rTyp K call_type1) (by rfl) (Z.free 89 (x := "type") rfl) (by decide +kernel) (pa_cons (pv 0) pa_nil)) (pe_bltn (by rfl) (Z.free 86 (x := "str") rfl) (by decide +kernel) (v := .ty "str") rfl))) (pw_or1 (pt_not (pt_chain op_le op_le pe_int (pe_callB (crK rLenU K ucall_len) (by rfl) (Z.free 80 (x := "len") rfl) (by decide +kernel) (pa_cons (pv 0) pa_nil)) (pe_glob (v := .int 6) (by rfl) c_LONGEST ⟨_, rfl⟩)))))) (pss_one (ps_ret pe_bl)) pss_nil)
      (pss_one (ps_ret (pe_callB (crK rAll K (cr_all rfl)) (by rfl) (Z.free 75 (x := "all") rfl) (by decide +kernel) (pa_cons (pe_lc (own := [("sign", 1)]) rfl sc_is_row.nd (pi_anyK K (pv 0)) (blkOk_by (own := [("sign", 1)]) (N := n_is_row) (sc := defScope s_is_row) (by decide +kernel)) (fun _ _ _ _ _ => by exact (pg_name (i := 1) sc_is_row.nd rfl (Or.inl rfl))) (fun _ _ _ _ _ => by exact pts_nil) (fun _ _ _ _ _ => by exact (pe_cmp (pc_inK K hu65 (pv 1) (pe_glob (v := .str "#.") (by rfl) c_SIGNS ⟨_, rfl⟩))))) pa_nil))))), ?_⟩
  refine pu1 h fun F v x hv r pre st k => ?_
  subst hv
  by_cases e : ∃ s, x = .str s
  · obtain ⟨s, rfl⟩ := e
    have hl := pre.2 s rfl
    refine s_if (b := !(decide (1 ≤ (s.length : Int)) && decide ((s.length : Int) ≤ 6))) ?_ st (fun hb H1 s1 st1 => ?_) fun hb H1 s1 st1 => ?_
    · refine evT_eq (et_or (a := false) (evT_eq (et_of (ev_typeIs (x := s) (ev_var rfl r) rfl)) rfl) fun _ => et_not (et_test (ev_chain (p := fun i j => decide (i ≤ j)) (p' := fun i j => decide (i ≤ j)) ev_int (ev_lenS (x := s) (ev_var rfl r) hl) ev_int))) rfl
    · refine s_ret (x := isRowD (.str s)) ?_ st1 k
      have e2 : isRowD (.str s) = false := by
        simp only [isRowD, isRow]
        rw [Bool.not_eq_true'] at hb
        rw [hb, Bool.false_and]
      rw [e2]
      exact ev_bool
    · dsimp only [tNext]
      refine s_ret (x := isRowD (.str s)) ?_ st1 k
      have hb2 : (decide (1 ≤ (s.length : Int)) && decide ((s.length : Int) ≤ 6)) = true := by simpa using hb
      have e2 : isRowD (.str s) = ((s.cps.toList.map fun c => (⟨#[c]⟩ : Str)).map fun z => z.cps.toList.all fun c => decide (c ∈ sgs.cps.toList)).all id := by
        simp only [isRowD, isRow, hb2, Bool.true_and, List.map_map]
        congr 1
        refine List.map_congr_left fun c _ => ?_
        simp
      rw [e2]
      refine ev_all (ev_lc1 (ei_anyS (x := s) (ev_var rfl r)) ?_ fun F2 z v2 l hz rz => ?_)
      · rw [List.length_map]
        exact Nat.le_trans (show s.cps.toList.length ≤ 1000 by simpa [Str.length] using hl) (by decide)
      · obtain ⟨c, _, rfl⟩ := List.mem_map.mp hz
        refine ev_eq (ev_inS (z := sgs) (ev_var rfl rz) ev_str) ?_
        simp
  · refine s_if (b := true) ?_ st (fun hb H1 s1 st1 => ?_) fun hb => by cases hb
    · have e2 : tyName x ≠ "str" := by
        cases x <;> simp_all [tyName]
      exact evT_eq (et_or (a := true) (b := true) (evT_eq (et_of (ev_typeIs (x := x) (ev_var rfl r) pre.1)) (by simp [Dt.d, e2])) fun z => by cases z) rfl
    · refine s_ret (x := isRowD x) ?_ st1 k
      have e2 : isRowD x = false := by
        cases x <;> simp_all [isRowD]
      rw [e2]
      exact ev_bool
def n_are_rows : List Str := ["thing", "row"]
theorem sc_are_rows : FnScope n_are_rows ["thing"] (defScope s_are_rows) := ⟨rfl, rfl, rfl, by decide +kernel, rfl, by decide +kernel, by decide +kernel⟩
theorem ok_are_rows {P : Program} {w : World} {K : PySem.W.Frag} {mg : Str → Option Value} {base : Heap} (Z : Top hfa hfn K mg) :
    ∃ fd, Fd P w K mg base CX0 2 "are_rows" (He.ga K "are_rows") fd ["thing"] (sp_are_rows K) := by
  obtain ⟨fd, F⟩ := Z.def_ 6 (d := d_are_rows) rfl
  obtain ⟨t_LONGEST, c_LONGEST⟩ := Z.int 70 (x := "LONGEST") rfl
  obtain ⟨fd_is_row, G_is_row⟩ := ok_is_row (P := P) (w := w) (base := base) Z
  refine ⟨fd, FunD.ok F sc_are_rows (fun vs H Q E h => len1 h) fun cdv A outer s H vs Q E hr h => ?_, Z.glo 6 (x := "are_rows") rfl, F.kp, FunD.bindsN F (ps := ["thing"]) fun _ _ _ _ _ _ us hl => match us, hl with | [_], _ => rfl⟩
  have hu0 := hr.units0
  have hu1 := hu_of hr
  have hu64 := hr.units
  have hu65 := hu65_of hr
  refine ⟨_, PSs.nox (pss_cons (ps_if (PW.pt (pw_or (pt_cmp (pc_op uop_isnot (pe_callTy (crK rTyp K call_type1) (by rfl) (Z.free 89 (x := "type") rfl) (by decide +kernel) (pa_cons (pv 0) pa_nil)) (pe_bltn (by rfl) (Z.free 81 (x := "list") rfl) (by decide +kernel) (v := .ty "list") rfl))) (pw_or1 (pt_not (pt_chain op_le op_le pe_int (pe_callB (crK rLenU K ucall_len) (by rfl) (Z.free 80 (x := "len") rfl) (by decide +kernel) (pa_cons (pv 0) pa_nil)) (pe_glob (v := .int 6) (by rfl) c_LONGEST ⟨_, rfl⟩)))))) (pss_one (ps_ret pe_bl)) pss_nil)
      (pss_cons (ps_if (pt_not (pt_trK K (pe_callB (crK rAll K (cr_all rfl)) (by rfl) (Z.free 75 (x := "all") rfl) (by decide +kernel) (pa_cons (pe_lc (own := [("row", 1)]) rfl sc_are_rows.nd (pi_anyK K (pv 0)) (blkOk_by (own := [("row", 1)]) (N := n_are_rows) (sc := defScope s_are_rows) (by decide +kernel)) (fun _ _ _ _ _ => by exact (pg_name (i := 1) sc_are_rows.nd rfl (Or.inl rfl))) (fun _ _ _ _ _ => by exact pts_nil) (fun _ _ _ _ _ => by exact (pe_fd G_is_row (hr.mono (by decide)) pass0 (pa_cons (pv 1) pa_nil)))) pa_nil)))) (pss_one (ps_ret pe_bl)) pss_nil)
      (pss_one (ps_ret (pe_callB (crK rAll K (cr_all rfl)) (by rfl) (Z.free 75 (x := "all") rfl) (by decide +kernel) (pa_cons (pe_lc (own := [("row", 1)]) rfl sc_are_rows.nd (pi_anyK K (pv 0)) (blkOk_by (own := [("row", 1)]) (N := n_are_rows) (sc := defScope s_are_rows) (by decide +kernel)) (fun _ _ _ _ _ => by exact (pg_name (i := 1) sc_are_rows.nd rfl (Or.inl rfl))) (fun _ _ _ _ _ => by exact pts_nil) (fun _ _ _ _ _ => by exact (pe_cmp (pc_op (opK rEqD K (op_eqD hu64)) (pe_callB (crK rLenU K ucall_len) (by rfl) (Z.free 80 (x := "len") rfl) (by decide +kernel) (pa_cons (pv 1) pa_nil)) (pe_callB (crK rLenU K ucall_len) (by rfl) (Z.free 80 (x := "len") rfl) (by decide +kernel) (pa_cons (pe_ixK K hu1 (pv 0) pe_int) pa_nil)))))) pa_nil)))))), ?_⟩
  refine pu1 h fun F v x hv r pre st k => ?_
  subst hv
  by_cases e : ∃ xs, x = .list xs
  · obtain ⟨xs, rfl⟩ := e
    obtain ⟨hl, hx⟩ := pre.2 xs rfl
    have big : xs.length ≤ 100000 := Nat.le_trans hl (by decide)
    refine s_if (b := !(decide (1 ≤ (xs.length : Int)) && decide ((xs.length : Int) ≤ 6))) ?_ st (fun hb H1 s1 st1 => ?_) fun hb H1 s1 st1 => ?_
    · exact evT_eq (et_or (a := false) (evT_eq (et_of (ev_typeIs (x := PyData.list xs) (ev_var rfl r) rfl)) rfl) fun _ => et_not (et_test (ev_chain (p := fun i j => decide (i ≤ j)) (p' := fun i j => decide (i ≤ j)) ev_int (ev_len (ev_asList (ev_var rfl r))) ev_int))) rfl
    · refine s_ret (x := areRowsD (.list xs)) ?_ st1 k
      have e2 : areRowsD (.list xs) = false := by
        simp only [areRowsD]
        rw [Bool.not_eq_true'] at hb
        rw [hb, Bool.false_and]
      rw [e2]
      exact ev_bool
    · have hb2 : (decide (1 ≤ (xs.length : Int)) && decide ((xs.length : Int) ≤ 6)) = true := by simpa using hb
      dsimp only [tNext]
      refine s_if (b := !(xs.map isRowD).all id) ?_ st1 (fun hb3 H2 s2 st2 => ?_) fun hb3 H2 s2 st2 => ?_
      · refine et_not (et_tr (ev_all (ev_lc1 (ei_any (ev_asList (ev_var rfl r))) big fun F2 y v2 l hy ry => ?_)))
        exact ev_call1 (f := isRowD) (pre := okRow) (ev_var rfl ry) (hx y hy)
      · refine s_ret (x := areRowsD (.list xs)) ?_ st2 k
        have e2 : areRowsD (.list xs) = false := by
          simp only [areRowsD]
          rw [Bool.not_eq_true'] at hb3
          rw [hb3, Bool.false_and, Bool.and_false]
        rw [e2]
        exact ev_bool
      · have hb4 : (xs.map isRowD).all id = true := by simpa using hb3
        dsimp only [tNext]
        refine s_ret (x := areRowsD (.list xs)) ?_ st2 k
        have rows : ∀ y ∈ xs, isRowD y = true := fun y hy => by
          have := List.all_eq_true.mp hb4 (isRowD y) (List.mem_map.mpr ⟨y, hy, rfl⟩)
          simpa using this
        obtain ⟨x0, xr, rfl⟩ : ∃ x0 xr, xs = x0 :: xr := by
          cases xs with
          | nil => simp at hb2
          | cons a b => exact ⟨a, b, rfl⟩
        have e2 : areRowsD (.list (x0 :: xr)) = ((x0 :: xr).map fun x => decide (lenD x = lenD x0)).all id := by
          simp only [areRowsD, hb2, hb4, Bool.true_and]
          rfl
        rw [e2]
        refine ev_all (ev_lc1 (ei_any (ev_asList (ev_var rfl r))) big fun F2 y v2 l hy ry => ?_)
        obtain ⟨sy, rfl, ly⟩ := isRowD_str (rows y hy)
        obtain ⟨s0, rfl, l0⟩ := isRowD_str (rows x0 List.mem_cons_self)
        refine ev_eqD (x := (sy.length : Int)) (y := (s0.length : Int)) (ev_lenS (x := sy) (ev_var rfl ry) (Nat.le_trans ly (by decide))) (ev_lenS (x := s0) ?_ (Nat.le_trans l0 (by decide)))
        exact ev_ixL (x := PyData.str s0) (ev_asList (ev_var rfl (r.mono l))) ev_int (by decide) rfl
  · refine s_if (b := true) ?_ st (fun hb H1 s1 st1 => ?_) fun hb => by cases hb
    · have e2 : tyName x ≠ "list" := by
        cases x <;> simp_all [tyName]
      exact evT_eq (et_or (a := true) (b := true) (evT_eq (et_of (ev_typeIs (x := x) (ev_var rfl r) pre.1)) (by simp [Dt.d, e2])) fun z => by cases z) rfl
    · refine s_ret (x := areRowsD x) ?_ st1 k
      have e2 : areRowsD x = false := by
        cases x <;> simp_all [areRowsD]
      rw [e2]
      exact ev_bool
def n_cells_in : List Str := ["rows", "y", "row", "x", "sign"]
theorem sc_cells_in : FnScope n_cells_in ["rows"] (defScope s_cells_in) := ⟨rfl, rfl, rfl, by decide +kernel, rfl, by decide +kernel, by decide +kernel⟩
theorem ok_cells_in {P : Program} {w : World} {K : PySem.W.Frag} {mg : Str → Option Value} {base : Heap} (Z : Top hfa hfn K mg) :
    ∃ fd, Fd P w K mg base CX0 1 "cells_in" (He.ga K "cells_in") fd ["rows"] (sp_cells_in K) := by
  obtain ⟨fd, F⟩ := Z.def_ 7 (d := d_cells_in) rfl
  obtain ⟨t_CELL_SIGN, c_CELL_SIGN⟩ := Z.str 71 (x := "CELL_SIGN") rfl
  refine ⟨fd, FunD.ok F sc_cells_in (fun vs H Q E h => lenN1 h) fun cdv A outer s H vs Q E hr h => ?_, Z.glo 7 (x := "cells_in") rfl, F.kp, FunD.bindsN F (ps := ["rows"]) fun _ _ _ _ _ _ us hl => match us, hl with | [_], _ => rfl⟩
  have hu0 := hr.units0
  have hu1 := hu_of hr
  have hu64 := hr.units
  have hu65 := hu65_of hr
  refine ⟨_, PSs.nox (pss_one (ps_ret (pe_lc2 (own := [("y", 1), ("row", 2), ("x", 3), ("sign", 4)]) rfl sc_cells_in.nd (pi_enumK K (by rfl) (Z.free 77 (x := "enumerate") rfl) (pa_cons (pv 0) pa_nil)) (blkOk_by (own := [("y", 1), ("row", 2), ("x", 3), ("sign", 4)]) (N := n_cells_in) (sc := defScope s_cells_in) (by decide +kernel)) (vs1 := [3, 4]) (by decide) (fun _ _ _ _ _ => by exact (pg_tupK K (n := 2) rfl (pgs_cons (pg_name (i := 1) sc_cells_in.nd rfl (Or.inl rfl)) (pgs_cons (pg_name (i := 2) sc_cells_in.nd rfl (Or.inl rfl)) pgs_nil)))) (fun _ _ _ _ _ => by exact pts_nil) (fun _ _ _ _ _ => by exact (pi_enumK K (by rfl) (Z.free 77 (x := "enumerate") rfl) (pa_cons (pv 2) pa_nil))) (fun _ _ _ _ _ => by exact (pg_tupK K (n := 2) rfl (pgs_cons (pg_name (i := 3) sc_cells_in.nd rfl (Or.inl rfl)) (pgs_cons (pg_name (i := 4) sc_cells_in.nd rfl (Or.inl rfl)) pgs_nil)))) (fun _ _ _ _ _ => by exact (pts_one (pt_cmp (pc_op (opK rEqD K (op_eqD hu64)) (pv 4) (pe_glob (v := .str "#") (by rfl) c_CELL_SIGN ⟨_, rfl⟩))))) (fun _ _ _ _ _ => by exact (pe_tup (pa_cons (pv 3) (pa_cons (pv 1) pa_nil))))))), ?_⟩
  refine puN1 h fun F v rows hv r pre st k => ?_
  subst hv
  obtain ⟨hl, hx⟩ := pre
  have mem : ∀ {q : Int × Str}, q ∈ enumI rows → q.2 ∈ rows := fun {q} hq => by
    simp only [enumI, List.mem_map] at hq
    obtain ⟨p, hp, rfl⟩ := hq
    exact (List.mem_zipIdx' hp).2 ▸ List.getElem_mem _
  have memS : ∀ {x : Str} {q : Int × Str}, q ∈ enumI (signs x) → q.2 ∈ signs x := fun {x q} hq => by
    simp only [enumI, List.mem_map] at hq
    obtain ⟨p, hp, rfl⟩ := hq
    exact (List.mem_zipIdx' hp).2 ▸ List.getElem_mem _
  have e2 : cellsIn rows = (((enumI rows).filter fun _ => true).flatMap fun q => ((enumI (signs q.2)).filter fun r => decide (r.2 = cellSign)).map fun r => (r.1, q.1)) := by
    rw [List.filter_eq_self.mpr fun _ _ => rfl]
    rfl
  refine s_retN (x := cellsIn rows) ?_ st k
  rw [e2]
  refine ev_lc2N (xs := enumI rows) (ys := fun q => enumI (signs q.2)) (p := fun _ => true) (p1 := fun q r => decide (r.2 = cellSign)) (f := fun q r => (r.1, q.1)) (m := 50) ?_ (fun q hq => ?_) ?_ fun F1 q v l hq rq => ?_
  · exact ei_enumL (ev_var rfl r)
  · rw [enumI_length, signs_length]
    exact (hx _ (mem hq)).1
  · rw [enumI_length]
    omega
  · obtain ⟨w, rw_, eg⟩ := eg_ix rq
    refine ⟨_, eg, rfl, et_true, fun _ => ⟨ei_enumS (ev_var rfl rw_), fun F2 y u l2 hy ry => ?_⟩⟩
    obtain ⟨z, rz, eg2⟩ := eg_ix ry
    exact ⟨_, eg2, rfl, et_of (ev_eqS (y := cellSign) (ev_var rfl rz) ev_str (signs_ok (hx _ (mem hq)).2 (memS hy))), fun _ => ev_pair (ev_var rfl (.int _)) (ev_var rfl (.int _))⟩
def n_hang_together : List Str := ["places", "among", "reached", "waiting", "here", "place"]
theorem sc_hang_together : FnScope n_hang_together ["places"] (defScope s_hang_together) := ⟨rfl, rfl, rfl, by decide +kernel, rfl, by decide +kernel, by decide +kernel⟩
theorem ok_hang_together {P : Program} {w : World} {K : PySem.W.Frag} {mg : Str → Option Value} {base : Heap} (Z : Top hfa hfn K mg) :
    ∃ fd, Fd P w K mg base CX0 2 "hang_together" (He.ga K "hang_together") fd ["places"] (sp_hang_together K) := by
  obtain ⟨fd, F⟩ := Z.def_ 8 (d := d_hang_together) rfl
  obtain ⟨fd_places_beside, G_places_beside⟩ := ok_places_beside (P := P) (w := w) (base := base) Z
  refine ⟨fd, FunD.ok F sc_hang_together (fun vs H Q E h => len1 h) fun cdv A outer s H vs Q E hr h => ?_, Z.glo 8 (x := "hang_together") rfl, F.kp, FunD.bindsN F (ps := ["places"]) fun _ _ _ _ _ _ us hl => match us, hl with | [_], _ => rfl⟩
  have hu0 := hr.units0
  have hu1 := hu_of hr
  have hu64 := hr.units
  have hu65 := hu65_of hr
  refine ⟨_, PSs.nox (pss_cons (ps_setDcT (i := 1) (own := [("place", 5)]) hu1 rfl sc_hang_together.nd rfl rfl (sw_dc rfl rfl rfl (by decide +kernel)) (pi_anyK K (pv 0)) (blkOk_by (own := [("place", 5)]) (N := n_hang_together) (sc := defScope s_hang_together) (by decide +kernel)) (fun _ _ _ _ _ => by exact (pg_name (i := 5) sc_hang_together.nd rfl (Or.inl rfl))) (fun _ _ _ _ _ => by exact pts_nil) (fun _ _ _ _ _ => by exact (pv 5)) (fun _ _ _ _ _ => by exact pe_bl))
      (pss_cons (ps_set (i := 2) sc_hang_together.nd rfl (Or.inl rfl) (pe_dispT hu1 (pps_cons (pe_ixK K hu1 (pv 0) pe_int) pe_bl pps_nil)))
      (pss_cons (ps_set (i := 3) sc_hang_together.nd rfl (Or.inl rfl) (pe_lst (pa_cons (pe_ixK K hu1 (pv 0) pe_int) pa_nil)))
      (pss_cons (ps_while PassesOwn.never (pt_trK K (pv 3)) (pss_cons (ps_set (i := 4) sc_hang_together.nd rfl (Or.inl rfl) (pe_bm0K K PySem.F.plainAttrs_list PySem.F.slot_list_pop PySem.F.type_list_pop mt_pop (pv 3)))
      (pss_one (ps_for PassesOwn.never rfl (pi_anyK K (pe_fd G_places_beside (hr.mono (by decide)) pass0 (pa_cons (pv 4) pa_nil))) (pg_name (i := 5) sc_hang_together.nd rfl (Or.inl rfl)) (pss_one (ps_if (PW.pt (pw_and (pt_cmp (pc_inK K hu65 (pv 5) (pv 1))) (pw_and1 (pt_cmp (pc_notinK K hu65 (pv 5) (pv 2)))))) (pss_cons (ps_dput hu1 (pv 2) (pv 5) pe_bl rfl)
      (pss_one (ps_expr (pe_bmK K PySem.F.plainAttrs_list PySem.F.slot_list_append PySem.F.type_list_append mt_append (pv 3) (pa_cons (pv 5) pa_nil))))) pss_nil))))))
      (pss_one (ps_ret (pe_cmp (pc_op (opK rEqD K (op_eqD hu64)) (pe_callB (crK rLenU K ucall_len) (by rfl) (Z.free 80 (x := "len") rfl) (by decide +kernel) (pa_cons (pv 2) pa_nil)) (pe_callB (crK rLenU K ucall_len) (by rfl) (Z.free 80 (x := "len") rfl) (by decide +kernel) (pa_cons (pv 1) pa_nil)))))))))), ?_⟩
  refine pu1 h fun F v ps hv r pre st k => ?_
  subst hv
  obtain ⟨ne, nd, hz⟩ := pre
  obtain ⟨p0, pr, rfl⟩ : ∃ a b, ps = a :: b := by
    cases ps with
    | nil => exact absurd rfl ne
    | cons a b => exact ⟨a, b, rfl⟩
  have big : (p0 :: pr).length ≤ 100000 := Nat.le_trans hz (by decide)
  have ed : dictOf (p0 :: pr) = ((p0 :: pr).filter fun _ => true).foldl (fun a x => a.put x true) ⟨[]⟩ := by
    rw [List.filter_eq_self.mpr fun _ _ => rfl]
    rfl
  refine s_asg (x := dictOf (p0 :: pr)) ?_ st fun v1 F1 H1 s1 st1 r1 => ?_
  · rw [ed]
    refine ev_dcT (p := fun _ => true) (fk := fun x => x) (fv := fun _ => true) (ei_any (ev_var rfl r)) big fun F1 x v l hx rx => ⟨_, eg_name, rfl, et_true, fun _ => ⟨ev_var rfl rx, ev_bool⟩⟩
  dsimp only
  refine s_ownD1 (k := p0) (x := true) (ev_ixL (ev_var rfl (r.mono s1.ff)) ev_int (by decide) rfl) ev_bool st1 fun p F2 H2 s2 st2 np o2 => ?_
  dsimp only
  refine s_ownL (xs := [p0]) (.cons (ev_ixL (ev_var rfl (r.mono (s1.ff.trans s2.ff))) ev_int (by decide) rfl)   .nil) (by show 1 ≤ 1000; decide) st2 fun q F3 H3 s3 st3 nq o3 => ?_
  dsimp only
  have o2' := o2.step s3
  have pq : p ≠ q := fun e => by
    obtain ⟨_, kv, z, _⟩ := o2'
    obtain ⟨us, z2⟩ := o3.at_
    rw [e, z2] at z
    cases z
  have l03 : Same F F3 := s1.ff.trans (s2.ff.trans s3.ff)
  refine s_whileG (τ := Dc Bool × List Pt) ((⟨[(p0, true)]⟩ : Dc Bool), [p0]) (fun g σ F H => ∃ a b, σ = [some v, some v1, some (.ref p), some (.ref q), a, b] ∧ OwnD F H p g.1 ∧ Own F H q g.2 ∧ Walked (p0 :: pr) g) (walkM (p0 :: pr)) (fun g => !g.2.isEmpty) st3
    ⟨_, _, rfl, o2', o3, walked_first (ps := p0 :: pr) ne⟩ ?_ ?_ ?_
  · rintro g σ1 F4 H4 l4 st4 ⟨a, b, rfl, oD, oL, W⟩ Q hQ
    refine oL.test st4.sub st4.tab (fun G l rv => et_trL (xs := g.2) (ev_var rfl rv)) _ fun H5 s5 => hQ H5 s5 ⟨a, b, rfl, oD.step s5, oL.step s5, W⟩
  · rintro ⟨R, W0⟩ σ1 F4 H4 l4 st4 ⟨a, b, rfl, oD, oL, W⟩ hb N hN
    obtain ⟨W1, here, rfl⟩ : ∃ W1 here, W0 = W1 ++ [here] := by
      refine ⟨W0.dropLast, W0.getLast (fun z => ?_), (List.dropLast_concat_getLast _).symm⟩
      subst z
      simp at hb
    dsimp only
    refine s_pop (xs := W1) (x := here) rfl oL st4 nq fun w H5 st5 oL5 rw_ kp5 => ?_
    have oD5 : OwnD F4 H5 p R := by
      obtain ⟨z1, kv, z2, z3⟩ := oD
      exact ⟨z1, kv, kp5 p _ pq z2, z3⟩
    dsimp only
    refine s_for (es := (beside4 here).map d) (ei_any (ev_call1 (f := beside4) (pre := fun _ => True) (ev_var rfl rw_) trivial)) st5 (fun i σ F H => ∃ b, σ = [some v, some v1, some (.ref p), some (.ref q), some w, b] ∧ OwnD F H p (((beside4 here).take i).foldl (visit (p0 :: pr)) (R, W1)).1 ∧ Own F H q (((beside4 here).take i).foldl (visit (p0 :: pr)) (R, W1)).2) ?_ ?_ ?_
    · intro F6 H6 s6
      exact ⟨_, rfl, oD5.step s6, oL5.step s6⟩
    · rintro i e u σ6 F6 H6 F7 H7 he l6 st6 ⟨b6, rfl, oD6, oL6⟩ s7 re N2 hN2
      have hi : i < 4 := by
        have := (List.getElem?_eq_some_iff.mp he).1
        simpa [beside4] using this
      obtain ⟨c, hc⟩ : ∃ c, (beside4 here)[i]? = some c := ⟨_, List.getElem?_eq_getElem (by simpa [beside4] using hi)⟩
      rw [List.getElem?_map, hc] at he
      cases he
      have tk : (beside4 here).take (i + 1) = (beside4 here).take i ++ [c] := take_snoc hc
      have oD7 := oD6.step s7
      have oL7 := oL6.step s7
      have st7 := st6.trans s7
      have gi : (((beside4 here).take (i + 1)).foldl (visit (p0 :: pr)) (R, W1)) = visit (p0 :: pr) (((beside4 here).take i).foldl (visit (p0 :: pr)) (R, W1)) c := by
        rw [tk, List.foldl_append]
        rfl
      generalize hg : ((beside4 here).take i).foldl (visit (p0 :: pr)) (R, W1) = g at oD7 oL7 gi
      have small : g.1.l.length < 100000 ∧ g.2.length < 100000 := by
        obtain ⟨new, h1, h2, h3, h4, h5⟩ := visits (ps := p0 :: pr) ((beside4 here).take i) (R, W1)
        rw [hg] at h1 h2
        have nn : new.length ≤ (p0 :: pr).length := sub_length h3 fun y hy => (h4 y hy).1
        have nr : R.keys.length ≤ (p0 :: pr).length := sub_length W.nk W.sub
        have nw : (W1 ++ [here]).length ≤ (p0 :: pr).length := sub_length W.nw fun y hy => W.sub y (W.wk y hy)
        rw [← Dc.keys_length, h1, h2]
        simp only [List.length_append, List.length_singleton] at nw ⊢
        omega
      have l17 : Same F1 F7 := s2.ff.trans (s3.ff.trans (l4.trans (l6.trans s7.ff)))
      refine eg_name H7 st7.sub _ ?_
      dsimp only
      refine s_ifOD (b := decide (c ∈ p0 :: pr) && !(g.1.get c).isSome) oD7 (fun G lG rG => et_and (evT_eq (et_of (ev_dIn (D := dictOf (p0 :: pr)) (k := c) (ev_var rfl (re.mono lG)) (ev_var rfl (r1.mono (l17.trans lG))))) (by rw [Dc.get_some]; exact decide_eq_decide.mpr dictOf_mem)) fun _ => et_of (ev_dNotIn (D := g.1) (k := c) (ev_var rfl (re.mono lG)) (ev_var rfl rG))) st7 (fun hb8 H8 s8' st8 => ?_) fun hb8 H8 s8' st8 => ?_
      all_goals have oD8 := oD7.step s8'
      all_goals have oL8 := oL7.step s8'
      all_goals
        have base : ∀ {g' : Dc Bool × List Pt} {F9 H9}, visit (p0 :: pr) g c = g' → Same F7 F9 → Step (tabs K) F F9 H H9 → OwnD F9 H9 p g'.1 → Own F9 H9 q g'.2 → N2 [some v, some v1, some (.ref p), some (.ref q), some w, some u] H9 := fun {g' F9 H9} e l9 s9 o1 o2 => hN2 _ F9 H9 l9 s9 ⟨_, rfl, by rw [gi, e]; exact o1, by rw [gi, e]; exact o2⟩
      · refine s_dput (x := true) rfl oD8 (ev_var rfl re) ev_bool st8 np small.1 fun F9 H9 l9 st9 oD9 kp9 new9 => ?_
        have oL9 : Own F9 H9 q g.2 := by
          obtain ⟨z1, us, z2, z3⟩ := oL8
          exact ⟨new9 q z1 (wr_lst z2), us, kp9 q _ (Ne.symm pq) nt_lst z2, z3.mono l9⟩
        dsimp only
        refine s_app (x := c) rfl oL9 (ev_var rfl (re.mono l9)) st9 nq small.2 fun F10 H10 l10 st10 oL10 kp10 new10 => ?_
        have oD10 : OwnD F10 H10 p (g.1.put c true) := by
          obtain ⟨z1, kv, z2, z3⟩ := oD9
          exact ⟨new10 p pq z1 (wr_dT z2), kv, kp10 p _ pq nt_dT z2, z3.mono l10⟩
        exact base (g' := (g.1.put c true, g.2 ++ [c])) (by unfold visit; rw [hb8]; rfl) (l9.trans l10) st10 oD10 oL10
      · exact base (g' := g) (by unfold visit; rw [hb8]; rfl) (Same.refl _) st8 oD8 oL8
    · rintro σ' F6 H6 l6 st6 ⟨b6, rfl, oD6, oL6⟩
      have e4 : (beside4 here).take ((beside4 here).map (d : Pt → PyData)).length = beside4 here := List.take_of_length_le (by simp)
      rw [e4] at oD6 oL6
      obtain ⟨W', m'⟩ := walked_turn W nd
      exact hN _ _ F6 H6 l6 st6 ⟨_, _, rfl, oD6, oL6, W'⟩ m'
  · rintro ⟨R, W0⟩ σ1 F4 H4 l4 st4 ⟨a, b, rfl, oD, oL, W⟩ hb
    have e0 : W0 = [] := by
      cases W0 with
      | nil => rfl
      | cons a b => simp at hb
    subst e0
    dsimp only
    obtain ⟨F5, l5, st5, r5⟩ := oD.out st4 np
    refine s_ret (x := hang (p0 :: pr)) ?_ st5 k
    rw [← walked_done W nd]
    exact ev_eqD (x := (R.l.length : Int)) (y := ((dictOf (p0 :: pr)).l.length : Int)) (ev_dLen (ev_var rfl r5)) (ev_dLen (ev_var rfl (r1.mono (s2.ff.trans (s3.ff.trans (l4.trans l5))))))
def n_places_without_cell : List Str := ["rows", "cells", "taken", "width", "height", "cell", "y", "x"]
theorem sc_places_without_cell : FnScope n_places_without_cell ["rows", "cells"] (defScope s_places_without_cell) := ⟨rfl, rfl, rfl, by decide +kernel, rfl, by decide +kernel, by decide +kernel⟩
theorem ok_places_without_cell {P : Program} {w : World} {K : PySem.W.Frag} {mg : Str → Option Value} {base : Heap} (Z : Top hfa hfn K mg) :
    ∃ fd, Fd P w K mg base CX0 1 "places_without_cell" (He.ga K "places_without_cell") fd ["rows", "cells"] (sp_places_without_cell K) := by
  obtain ⟨fd, F⟩ := Z.def_ 9 (d := d_places_without_cell) rfl
  refine ⟨fd, FunD.ok F sc_places_without_cell (fun vs H Q E h => len2 h) fun cdv A outer s H vs Q E hr h => ?_, Z.glo 9 (x := "places_without_cell") rfl, F.kp, FunD.bindsN F (ps := ["rows", "cells"]) fun _ _ _ _ _ _ us hl => match us, hl with | [_, _], _ => rfl⟩
  have hu0 := hr.units0
  have hu1 := hu_of hr
  have hu64 := hr.units
  have hu65 := hu65_of hr
  refine ⟨_, PSs.nox (pss_cons (ps_set (i := 2) sc_places_without_cell.nd rfl (Or.inr rfl) (pe_dcT (own := [("cell", 5)]) hu1 rfl sc_places_without_cell.nd (pi_anyK K (pv 1)) (blkOk_by (own := [("cell", 5)]) (N := n_places_without_cell) (sc := defScope s_places_without_cell) (by decide +kernel)) (fun _ _ _ _ _ => by exact (pg_name (i := 5) sc_places_without_cell.nd rfl (Or.inl rfl))) (fun _ _ _ _ _ => by exact pts_nil) (fun _ _ _ _ _ => by exact (pv 5)) (fun _ _ _ _ _ => by exact pe_bl)))
      (pss_cons (ps_set (i := 3) sc_places_without_cell.nd rfl (Or.inr rfl) (pe_callB (crK rLenU K ucall_len) (by rfl) (Z.free 80 (x := "len") rfl) (by decide +kernel) (pa_cons (pe_ixK K hu1 (pv 0) pe_int) pa_nil)))
      (pss_cons (ps_set (i := 4) sc_places_without_cell.nd rfl (Or.inl rfl) (pe_callB (crK rLenU K ucall_len) (by rfl) (Z.free 80 (x := "len") rfl) (by decide +kernel) (pa_cons (pv 0) pa_nil)))
      (pss_one (ps_ret (pe_lc2 (own := [("y", 6), ("x", 7)]) rfl sc_places_without_cell.nd (pi_range2 (by rfl) (Z.free 84 (x := "range") rfl) (pa_cons (pe_un un_neg pe_int) (pa_cons (pe_op uop_add (pv 4) pe_int) pa_nil))) (blkOk_by (own := [("y", 6), ("x", 7)]) (N := n_places_without_cell) (sc := defScope s_places_without_cell) (by decide +kernel)) (vs1 := [7]) (by decide) (fun _ _ _ _ _ => by exact (pg_name (i := 6) sc_places_without_cell.nd rfl (Or.inl rfl))) (fun _ _ _ _ _ => by exact pts_nil) (fun _ _ _ _ _ => by exact (pi_range2 (by rfl) (Z.free 84 (x := "range") rfl) (pa_cons (pe_un un_neg pe_int) (pa_cons (pe_op uop_add (pv 3) pe_int) pa_nil)))) (fun _ _ _ _ _ => by exact (pg_name (i := 7) sc_places_without_cell.nd rfl (Or.inl rfl))) (fun _ _ _ _ _ => by exact (pts_one (pt_cmp (pc_notinK K hu65 (pe_tup (pa_cons (pv 7) (pa_cons (pv 6) pa_nil))) (pv 2))))) (fun _ _ _ _ _ => by exact (pe_tup (pa_cons (pv 7) (pa_cons (pv 6) pa_nil)))))))))), ?_⟩
  refine pu2 h fun F v w rows cells hv r1 r2 pre st k => ?_
  subst hv
  obtain ⟨ne, hl, hx, hc⟩ := pre
  obtain ⟨r0, rr, rfl⟩ : ∃ a b, rows = a :: b := by
    cases rows with
    | nil => exact absurd rfl ne
    | cons a b => exact ⟨a, b, rfl⟩
  have l0 := hx r0 List.mem_cons_self
  have ed : dictOf cells = (cells.filter fun _ => true).foldl (fun a x => a.put x true) ⟨[]⟩ := by
    rw [List.filter_eq_self.mpr fun _ _ => rfl]
    rfl
  refine s_asg (x := dictOf cells) ?_ st fun v1 F1 H1 s1 st1 rv1 => ?_
  · rw [ed]
    exact ev_dcT (p := fun _ => true) (fk := fun x => x) (fv := fun _ => true) (ei_any (ev_var rfl r2)) (Nat.le_trans hc (by decide)) fun F1 x v l hx rx => ⟨_, eg_name, rfl, et_true, fun _ => ⟨ev_var rfl rx, ev_bool⟩⟩
  dsimp only
  refine s_asg (x := (r0.length : Int)) (ev_lenS (ev_ixL (ev_var rfl (r1.mono s1.ff)) ev_int (by decide) rfl) (Nat.le_trans l0 (by decide))) st1 fun v2 F2 H2 s2 st2 rv2 => ?_
  dsimp only
  refine s_asg (x := ((r0 :: rr).length : Int)) (ev_len (ev_var rfl (r1.mono (s1.ff.trans s2.ff)))) st2 fun v3 F3 H3 s3 st3 rv3 => ?_
  dsimp only
  refine s_ret (x := without (r0 :: rr) cells) ?_ st3 k
  have hl' : (r0 :: rr).length ≤ 50 := hl
  have e2 : without (r0 :: rr) cells = (((rangeI (-1) (((r0 :: rr).length : Int) + 1 - -1).toNat).filter fun _ => true).flatMap fun y => ((rangeI (-1) ((r0.length : Int) + 1 - -1).toNat).filter fun x => !decide ((x, y) ∈ cells)).map fun x => (x, y)) := by
    rw [List.filter_eq_self.mpr fun _ _ => rfl]
    rfl
  rw [e2]
  refine ev_lc2 (xs := rangeI (-1) (((r0 :: rr).length : Int) + 1 - -1).toNat) (ys := fun _ => rangeI (-1) ((r0.length : Int) + 1 - -1).toNat) (p := fun _ => true) (p1 := fun y x => !decide ((x, y) ∈ cells)) (f := fun y x => (x, y)) (m := 60) ?_ (fun y hy => ?_) ?_ fun F4 y u l4 hy ry => ?_
  · exact ei_range2 (ev_neg ev_int) (ev_add (ev_var rfl rv3) ev_int) (by decide) (by omega)
  · rw [rangeI_length]
    omega
  · rw [rangeI_length]
    omega
  · refine ⟨_, eg_name, rfl, et_true, fun _ => ⟨?_, fun F5 x u2 l5 hx rx => ?_⟩⟩
    · exact ei_range2 (ev_neg ev_int) (ev_add (ev_var rfl (rv2.mono (s3.ff.trans l4))) ev_int) (by decide) (by omega)
    · have l15 := s2.ff.trans (s3.ff.trans (l4.trans l5))
      refine ⟨_, eg_name, rfl, evT_eq (et_of (ev_dNotIn (D := dictOf cells) (k := (x, y)) (ev_pair (ev_var rfl rx) (ev_var rfl (ry.mono l5))) (ev_var rfl (rv1.mono l15)))) ?_, fun _ => ev_pair (ev_var rfl rx) (ev_var rfl (ry.mono l5))⟩
      rw [Dc.get_some]
      exact congrArg (! ·) (decide_eq_decide.mpr dictOf_mem)
def n_Floor_m_init : List Str := ["self", "rows", "cells", "cell"]
theorem sc_Floor_m_init : FnScope n_Floor_m_init ["self", "rows"] (defScope s_Floor_m_init) := ⟨rfl, rfl, rfl, by decide +kernel, rfl, by decide +kernel, by decide +kernel⟩
theorem ok_Floor_m_init {P : Program} {w : World} {K : PySem.W.Frag} {mg : Str → Option Value} {base : Heap} (Z : Top hfa hfn K mg) :
    ∃ fd, Mc P w K mg base (L2N.CX P w) 3 "Floor" (He.ga K "Floor") (He.ma K (He.ga K "Floor") "__init__") fd ["self", "rows"] (sp_Floor_m_init K) := by
  obtain ⟨fd, F⟩ := Z.def_ 10 (d := d_Floor_m_init) rfl
  obtain ⟨fd_hang_together, G_hang_together⟩ := ok_hang_together (P := P) (w := w) (base := base) Z
  obtain ⟨fd_places_without_cell, G_places_without_cell⟩ := ok_places_without_cell (P := P) (w := w) (base := base) Z
  obtain ⟨fd_cells_in, G_cells_in⟩ := ok_cells_in (P := P) (w := w) (base := base) Z
  obtain ⟨fd_are_rows, G_are_rows⟩ := ok_are_rows (P := P) (w := w) (base := base) Z
  have x_Holed := He.exc_ok (Z.fact 63 (f := .exc "Holed") rfl)
  have x_Parted := He.exc_ok (Z.fact 62 (f := .exc "Parted") rfl)
  have x_BadFloor := He.exc_ok (Z.fact 61 (f := .exc "BadFloor") rfl)
  refine ⟨fd, FunD.ok F sc_Floor_m_init (fun vs H Q E h => len_init h) fun cdv A outer s H vs Q E hr h => ?_, He.mkr_ok (Z.fact 49 (f := .mkr "Floor") rfl), Z.glo 47 (x := "Floor") rfl, FunD.bindsN F (ps := ["self", "rows"]) fun _ _ _ _ _ _ us hl => match us, hl with | [_, _], _ => rfl⟩
  have hu0 := hr.units0
  have hu1 := hu_of hr
  have hu64 := hr.units
  have hu65 := hu65_of hr
  refine ⟨_, (pss_cons (ps_if (pt_not (pt_trK K (pe_fd G_are_rows (hr.mono (by decide)) pass0 (pa_cons (pv 1) pa_nil)))) (pss_one (L2N.ps_raise rfl (L2N.takes_of rfl rfl rfl rfl) (L2N.pmk_own PySem.F.excBase_ValueError x_BadFloor.1 (Z.glo 38 (x := "BadFloor") rfl) x_BadFloor.2.1 (raises_own x_BadFloor.2.2.1 x_BadFloor.2.2.2) rfl))) pss_nil)
      (pss_cons (ps_set (i := 2) sc_Floor_m_init.nd rfl (Or.inl rfl) (pe_fd G_cells_in (hr.mono (by decide)) pass0 (pa_cons (pv 1) pa_nil)))
      (pss_cons (ps_if (pt_not (pt_trK K (pv 2))) (pss_one (L2N.ps_raise rfl (L2N.takes_of rfl rfl rfl rfl) (L2N.pmk_own PySem.F.excBase_ValueError x_BadFloor.1 (Z.glo 38 (x := "BadFloor") rfl) x_BadFloor.2.1 (raises_own x_BadFloor.2.2.1 x_BadFloor.2.2.2) rfl))) pss_nil)
      (pss_cons (ps_if (pt_not (pt_trK K (pe_fd G_hang_together (hr.mono (by decide)) pass0 (pa_cons (pv 2) pa_nil)))) (pss_one (L2N.ps_raise rfl (L2N.takes_of rfl rfl rfl rfl) (L2N.pmk_own PySem.F.excBase_ValueError x_Parted.1 (Z.glo 39 (x := "Parted") rfl) x_Parted.2.1 (raises_own x_Parted.2.2.1 x_Parted.2.2.2) rfl))) pss_nil)
      (pss_cons (ps_if (pt_not (pt_trK K (pe_fd G_hang_together (hr.mono (by decide)) pass0 (pa_cons (pe_fd G_places_without_cell (hr.mono (by decide)) pass0 (pa_cons (pv 1) (pa_cons (pv 2) pa_nil))) pa_nil)))) (pss_one (L2N.ps_raise rfl (L2N.takes_of rfl rfl rfl rfl) (L2N.pmk_own PySem.F.excBase_ValueError x_Holed.1 (Z.glo 40 (x := "Holed") rfl) x_Holed.2.1 (raises_own x_Holed.2.2.1 x_Holed.2.2.2) rfl))) pss_nil)
      (pss_cons (ps_fldK K (pv 0) (pe_callTy (crK rListU K (ucall_list rfl)) (by rfl) (Z.free 81 (x := "list") rfl) (by decide +kernel) (pa_cons (pv 1) pa_nil)))
      (pss_cons (ps_fldK K (pv 0) (pv 2))
      (pss_one (ps_fldK K (pv 0) (pe_dcT (own := [("cell", 3)]) hu1 rfl sc_Floor_m_init.nd (pi_anyK K (pv 2)) (blkOk_by (own := [("cell", 3)]) (N := n_Floor_m_init) (sc := defScope s_Floor_m_init) (by decide +kernel)) (fun _ _ _ _ _ => by exact (pg_name (i := 3) sc_Floor_m_init.nd rfl (Or.inl rfl))) (fun _ _ _ _ _ => by exact pts_nil) (fun _ _ _ _ _ => by exact (pv 3)) (fun _ _ _ _ _ => by exact pe_bl))))))))))), ?_⟩
  obtain ⟨F, HB, p, dx, v, x, hvs, rfl, np, nd, dp, sb, tb, r, pre, bad, good⟩ := h
  subst hvs
  have fp : F p = none := sb.free np
  have fdx : F dx = none := sb.free nd
  have nd2 : upd HB dx (.own p) p = none := by rw [upd_ne (Ne.symm dp)]; exact np
  have st : Step (tabs K) F F HB (upd (upd HB dx (.own p)) p (.ins (He.ga K "Floor") dx [])) :=
    ⟨Same.refl _, (sb.mut fdx).mut fp, (Ext.new nd).trans (Ext.new nd2), fun _ h _ => h, tabs_new (tabs_new tb nd) nd2⟩
  have cl := He.cls_ok (Z.fact 48 (f := .cls "Floor") rfl)
  have na1 := He.noat_ok (Z.fact 50 (f := .noat "Floor" "_rows") rfl)
  have na2 := He.noat_ok (Z.fact 51 (f := .noat "Floor" "_cells") rfl)
  have na3 := He.noat_ok (Z.fact 52 (f := .noat "Floor" "_known") rfl)
  have hp0 : (upd (upd HB dx (.own p)) p (.ins (He.ga K "Floor") dx [])) p = some (.ins (He.ga K "Floor") dx []) := upd_same
  refine s_if (b := !areRowsD x) (et_not (et_tr (ev_call1 (f := areRowsD) (pre := okRows) (ev_var rfl r) pre))) st (fun hb H1 s1 st1 => ?_) fun hb H1 s1 st1 => ?_
  · exact bad _ (judgeD_bad (by simpa using hb)) _ st1
  have ha : areRowsD x = true := by simpa using hb
  obtain ⟨rows, rfl, R⟩ := rows_of ha
  have er := judgeD_rows ha
  have small : ∀ y ∈ rows, y.length ≤ 50 ∧ PyData.strOk y = true := fun y hy => ⟨by have := R.one hy; omega, isRow_ok (R.row y hy)⟩
  have lr := R.len
  dsimp only [tNext]
  refine s_asgN (x := cellsIn rows) (ev_call1N (f := cellsIn) (ev_var rfl r) ⟨by omega, small⟩) st1 fun v2 F2 H2 s2 st2 r2 n2 => ?_
  have lc : (cellsIn rows).length ≤ 2500 := cellsIn_length (by omega) fun y hy => (small y hy).1
  have hp2 := s2.ext.keep p _ (s1.ext.keep p _ hp0 nt_ins) nt_ins
  have fp2 := s2.new p fp (wr_ins (s1.ext.keep p _ hp0 nt_ins))
  dsimp only
  refine s_if (b := !!(cellsIn rows).isEmpty) (et_not (et_trL (ev_var rfl r2))) st2 (fun hb H3 s3 st3 => ?_) fun hb H3 s3 st3 => ?_
  · refine bad "BadFloor" ?_ _ st3.keep
    rw [er]
    unfold judge
    exact if_pos (List.isEmpty_iff.mp (by simpa using hb))
  have ne : cellsIn rows ≠ [] := fun e => by
    rw [e] at hb
    simp at hb
  have nodC := nodup_lt (cellsIn_sorted rows)
  have big : (cellsIn rows).length ≤ 1000 := by
    have := cells36 R
    omega
  dsimp only [tNext]
  refine s_if (b := !hang (cellsIn rows)) (et_not (et_tr (ev_call1 (f := hang) (pre := okPlaces) (ev_var rfl r2) ⟨ne, nodC, big⟩))) st3 (fun hb2 H4 s4 st4 => ?_) fun hb2 H4 s4 st4 => ?_
  · refine bad "Parted" ?_ _ st4.keep
    rw [er]
    unfold judge
    rw [if_neg ne, if_pos (by simpa using hb2)]
  have hg : hang (cellsIn rows) = true := by simpa using hb2
  have wd : widthOf rows ≤ 6 := by
    obtain ⟨r0, hr0⟩ := List.exists_mem_of_ne_nil _ R.ne
    have := R.one hr0
    have := R.same r0 hr0
    omega
  have nodW := nodup_lt (without_sorted rows (cellsIn rows))
  have neW : without rows (cellsIn rows) ≠ [] := fun e => by
    have : ((-1, -1) : Pt) ∈ without rows (cellsIn rows) := mem_without.mpr ⟨⟨by decide, by unfold widthOf; show (-1 : Int) ≤ _; omega⟩, ⟨by decide, by show (-1 : Int) ≤ _; omega⟩, fun h => absurd (mem_cellsIn.mp h).1 (by decide)⟩
    rw [e] at this
    cases this
  have bigW : (without rows (cellsIn rows)).length ≤ 1000 := Nat.le_trans (without_length lr wd) (by decide)
  dsimp only [tNext]
  refine s_if (b := !hang (without rows (cellsIn rows))) (et_not (et_tr (ev_call1 (f := hang) (pre := okPlaces) (ev_call2 (f := without) (pre := okBox) (x := rows) (ev_var rfl (r.mono s2.ff)) (ev_var rfl r2) ⟨R.ne, by omega, fun y hy => (small y hy).1, by omega⟩) ⟨neW, nodW, bigW⟩))) st4 (fun hb3 H5 s5 st5 => ?_) fun hb3 H5 s5 st5 => ?_
  · refine bad "Holed" ?_ _ st5.keep
    rw [er]
    unfold judge
    rw [if_neg ne, if_neg (by rw [hg]; decide), if_pos (by simpa using hb3)]
  have hgW : hang (without rows (cellsIn rows)) = true := by simpa using hb3
  have none_ : judgeD (d rows) = none := by
    rw [er]
    unfold judge
    rw [if_neg ne, if_neg (by rw [hg]; decide), if_neg (by rw [hgW]; decide)]
  have hp5 := s5.ext.keep p _ (s4.ext.keep p _ (s3.ext.keep p _ hp2 nt_ins) nt_ins) nt_ins
  dsimp only [tNext]
  refine s_setFN (x := rows) rfl (ev_listOfN (ev_var rfl (r.mono s2.ff))) fp2 hp5 cl na1 (by decide) st5 np fun u1 F6 H6 l6 st6 fp6 hp6 r6 n6 => ?_
  dsimp only
  refine s_setV (v := v2) rfl rfl fp6 hp6 cl na2 (by show 1 < 1000; decide) st6 np fun H7 st7 hp7 => ?_
  have ed : dictOf (cellsIn rows) = ((cellsIn rows).filter fun _ => true).foldl (fun a x => a.put x true) ⟨[]⟩ := by
    rw [List.filter_eq_self.mpr fun _ _ => rfl]
    rfl
  dsimp only
  refine s_setF (x := dictOf (cellsIn rows)) rfl ?_ fp6 hp7 cl na3 (by show 2 < 1000; decide) st7 np fun u3 F8 H8 l8 st8 fp8 hp8 r8 => ?_
  · rw [ed]
    exact ev_dcT (p := fun _ => true) (fk := fun x => x) (fv := fun _ => true) (ei_any (ev_var rfl (r2.mono l6))) (Nat.le_trans big (by decide)) fun F1 x v l hx rx => ⟨_, eg_name, rfl, et_true, fun _ => ⟨ev_var rfl rx, ev_bool⟩⟩
  · obtain ⟨a, us, ea, _, _⟩ := rv_list r6
    obtain ⟨b, ws, eb, _, _⟩ := rv_list r2
    have ef : putF "_known" u3 (putF "_cells" v2 (putF "_rows" u1 [])) = ([("_rows", u1), ("_cells", v2), ("_known", u3)] : List (Str × V)) := by rfl
    rw [ef] at hp8
    have ff := same_upd (o := HO.ins (He.ga K "Floor") dx [("_rows", u1), ("_cells", v2), ("_known", u3)]) fp8
    refine good rows rfl none_ (upd F8 p (.ins (He.ga K "Floor") dx [("_rows", u1), ("_cells", v2), ("_known", u3)])) H8 ⟨st8.ff.trans ff, sub_upd st8.sub hp8 nt_ins, st8.ext, fun c h1 h2 => ?_, st8.tab⟩ ?_ ?_
    · have nc : c ≠ p := fun z => h2.some (by rw [z]; exact np)
      rw [upd_ne nc]
      exact st8.new c h1 h2
    · exact fl_rv (x := flOf (He.ga K "Floor") rows) upd_same ((r6.mono l8).mono ff) (((r2.mono l6).mono l8).mono ff) (r8.mono ff)
    · exact ⟨_, dx, a, b, u3, by rw [upd_same, ea, eb], n6 a ea, n2 b eb⟩
def n_Floor_m_has : List Str := ["self", "place"]
theorem sc_Floor_m_has : FnScope n_Floor_m_has ["self", "place"] (defScope s_Floor_m_has) := ⟨rfl, rfl, rfl, by decide +kernel, rfl, by decide +kernel, by decide +kernel⟩
theorem ok_Floor_m_has {P : Program} {w : World} {K : PySem.W.Frag} {mg : Str → Option Value} {base : Heap} (Z : Top hfa hfn K mg) :
    ∃ fd, Md P w K mg base CX0 2 (He.ga K "Floor") "has" (He.ma K (He.ga K "Floor") "has") fd ["self", "place"] (sp_Floor_m_has K) := by
  obtain ⟨fd, F⟩ := Z.def_ 12 (d := d_Floor_m_has) rfl
  obtain ⟨fd_is_place, G_is_place⟩ := ok_is_place (P := P) (w := w) (base := base) Z
  refine ⟨fd, FunD.ok F sc_Floor_m_has (fun vs H Q E h => len2 h) fun cdv A outer s H vs Q E hr h => ?_, He.cls_ok (Z.fact 48 (f := .cls "Floor") rfl), He.meth_ok (Z.fact 54 (f := .meth "Floor" "has") rfl), FunD.bindsN F (ps := ["self", "place"]) fun _ _ _ _ _ _ us hl => match us, hl with | [_, _], _ => rfl⟩
  have hu0 := hr.units0
  have hu1 := hu_of hr
  have hu64 := hr.units
  have hu65 := hu65_of hr
  refine ⟨_, PSs.nox (pss_one (ps_ret (pe_and (pe_fd G_is_place (hr.mono (by decide)) pass0 (pa_cons (pv 1) pa_nil)) (pe_one (pe_cmp (pc_inK K hu65 (pv 1) (pe_fldK K (pv 0)))))))), ?_⟩
  refine pu2 h fun F v w f x hv r1 r2 pre st k => ?_
  subst hv
  obtain ⟨hf, ok⟩ := pre
  refine s_ret (x := hasD f x) ?_ st k
  refine ev_andV (ev_call1 (f := isPlaceD) (pre := okThing) (ev_var rfl r2) ok) fun hp => ?_
  refine ev_dIn (k := ptD x) (ev_var rfl (by rw [← place_pt hp]; exact r2)) (ev_fld3 (ev_var rfl r1) ?_ ?_)
  · rw [hf]
    exact He.cls_ok (Z.fact 48 (f := .cls "Floor") rfl)
  · rw [hf]
    exact He.noat_ok (Z.fact 52 (f := .noat "Floor" "_known") rfl)
def n_Floor_m_cells : List Str := ["self"]
theorem sc_Floor_m_cells : FnScope n_Floor_m_cells ["self"] (defScope s_Floor_m_cells) := ⟨rfl, rfl, rfl, by decide +kernel, rfl, by decide +kernel, by decide +kernel⟩
theorem ok_Floor_m_cells {P : Program} {w : World} {K : PySem.W.Frag} {mg : Str → Option Value} {base : Heap} (Z : Top hfa hfn K mg) :
    ∃ fd, Md P w K mg base CX0 1 (He.ga K "Floor") "cells" (He.ma K (He.ga K "Floor") "cells") fd ["self"] (sp_Floor_m_cells K) := by
  obtain ⟨fd, F⟩ := Z.def_ 13 (d := d_Floor_m_cells) rfl
  refine ⟨fd, FunD.ok F sc_Floor_m_cells (fun vs H Q E h => lenN1 h) fun cdv A outer s H vs Q E hr h => ?_, He.cls_ok (Z.fact 48 (f := .cls "Floor") rfl), He.meth_ok (Z.fact 55 (f := .meth "Floor" "cells") rfl), FunD.bindsN F (ps := ["self"]) fun _ _ _ _ _ _ us hl => match us, hl with | [_], _ => rfl⟩
  have hu0 := hr.units0
  have hu1 := hu_of hr
  have hu64 := hr.units
  have hu65 := hu65_of hr
  refine ⟨_, PSs.nox (pss_one (ps_ret (pe_callTy (crK rListU K (ucall_list rfl)) (by rfl) (Z.free 81 (x := "list") rfl) (by decide +kernel) (pa_cons (pe_fldK K (pv 0)) pa_nil)))), ?_⟩
  refine puN1 h fun F v f hv r hf st k => ?_
  subst hv
  refine s_retN (x := f.cells) (ev_listOfN (ev_fld2 (ev_var rfl r) ?_ ?_)) st k
  · rw [hf]
    exact He.cls_ok (Z.fact 48 (f := .cls "Floor") rfl)
  · rw [hf]
    exact He.noat_ok (Z.fact 51 (f := .noat "Floor" "_cells") rfl)
def n_Floor_m_beside : List Str := ["self", "cell", "place"]
theorem sc_Floor_m_beside : FnScope n_Floor_m_beside ["self", "cell"] (defScope s_Floor_m_beside) := ⟨rfl, rfl, rfl, by decide +kernel, rfl, by decide +kernel, by decide +kernel⟩
theorem ok_Floor_m_beside {P : Program} {w : World} {K : PySem.W.Frag} {mg : Str → Option Value} {base : Heap} (Z : Top hfa hfn K mg) :
    ∃ fd, Md P w K mg base (L2N.CX P w) 3 (He.ga K "Floor") "beside" (He.ma K (He.ga K "Floor") "beside") fd ["self", "cell"] (sp_Floor_m_beside K) := by
  obtain ⟨fd, F⟩ := Z.def_ 14 (d := d_Floor_m_beside) rfl
  obtain ⟨fd_places_beside, G_places_beside⟩ := ok_places_beside (P := P) (w := w) (base := base) Z
  obtain ⟨fd_Floor_has, G_Floor_has⟩ := ok_Floor_m_has (P := P) (w := w) (base := base) Z
  have x_NoCell := He.exc_ok (Z.fact 64 (f := .exc "NoCell") rfl)
  refine ⟨fd, FunD.ok F sc_Floor_m_beside (fun vs H Q E h => len_beside h) fun cdv A outer s H vs Q E hr h => ?_, He.cls_ok (Z.fact 48 (f := .cls "Floor") rfl), He.meth_ok (Z.fact 56 (f := .meth "Floor" "beside") rfl), FunD.bindsN F (ps := ["self", "cell"]) fun _ _ _ _ _ _ us hl => match us, hl with | [_, _], _ => rfl⟩
  have hu0 := hr.units0
  have hu1 := hu_of hr
  have hu64 := hr.units
  have hu65 := hu65_of hr
  refine ⟨_, (pss_cons (ps_if (pt_not (pt_trK K (pe_md (pv 0) G_Floor_has (hr.mono (by decide)) pass0 (pa_cons (pv 1) pa_nil)))) (pss_one (L2N.ps_raise rfl (L2N.takes_of rfl rfl rfl rfl) (L2N.pmk_own PySem.F.excBase_ValueError x_NoCell.1 (Z.glo 41 (x := "NoCell") rfl) x_NoCell.2.1 (raises_own x_NoCell.2.2.1 x_NoCell.2.2.2) rfl))) pss_nil)
      (pss_one (ps_ret (pe_lc (own := [("place", 2)]) rfl sc_Floor_m_beside.nd (pi_anyK K (pe_fd G_places_beside (hr.mono (by decide)) pass0 (pa_cons (pv 1) pa_nil))) (blkOk_by (own := [("place", 2)]) (N := n_Floor_m_beside) (sc := defScope s_Floor_m_beside) (by decide +kernel)) (fun _ _ _ _ _ => by exact (pg_name (i := 2) sc_Floor_m_beside.nd rfl (Or.inl rfl))) (fun _ _ _ _ _ => by exact (pts_one (pt_cmp (pc_inK K hu65 (pv 2) (pe_fldK K (pv 0)))))) (fun _ _ _ _ _ => by exact (pv 2)))))), ?_⟩
  obtain ⟨F, f, x, v, w, hvs, s0, t0, r1, r2, hf, ok, good, bad⟩ := h
  subst hvs
  have st : Step (tabs K) F F H H := .refl s0 t0
  have cl : Cls K f.cls := by rw [hf]; exact He.cls_ok (Z.fact 48 (f := .cls "Floor") rfl)
  have na : NoAttr K f.cls "_known" := by rw [hf]; exact He.noat_ok (Z.fact 52 (f := .noat "Floor" "_known") rfl)
  refine s_if (b := !hasD f x) (et_not (et_tr (ev_m1 (f := hasD) (pre := fun f x => isFl K f ∧ okThing x) (ev_var rfl r1) (ev_var rfl r2) ⟨hf, ok⟩ hf))) st (fun hb H1 s1 st1 => ?_) fun hb H1 s1 st1 => ?_
  · exact bad (by simpa using hb) _ st1
  have hb' : hasD f x = true := by simpa using hb
  unfold hasD at hb'
  rw [Bool.and_eq_true] at hb'
  have ex := place_pt hb'.1
  dsimp only [tNext]
  refine s_retN (x := besideOf f (ptD x)) ?_ st1 (good (ptD x) ex hb'.2)
  have e2 : besideOf f (ptD x) = ((beside4 (ptD x)).filter (inK f)).map fun y => y := by rw [List.map_id']; rfl
  rw [e2]
  refine ev_lcFN (ei_any (ev_call1 (f := beside4) (pre := fun _ => True) (ev_var rfl (by rw [← ex]; exact r2)) trivial)) (by simp [beside4]) fun F1 y u l hy ry => ⟨et_of (ev_dIn (k := y) (ev_var rfl ry) (ev_fld3 (ev_var rfl (r1.mono l)) cl na)), fun _ => ev_var rfl ry⟩
def n_Floor_m_corners : List Str := ["self", "found", "cell", "corner"]
theorem sc_Floor_m_corners : FnScope n_Floor_m_corners ["self"] (defScope s_Floor_m_corners) := ⟨rfl, rfl, rfl, by decide +kernel, rfl, by decide +kernel, by decide +kernel⟩
theorem ok_Floor_m_corners {P : Program} {w : World} {K : PySem.W.Frag} {mg : Str → Option Value} {base : Heap} (Z : Top hfa hfn K mg) (TB : LamX.TabB base mg (He.cT K ("in_order", none)).1 (He.cT K ("in_order", none)).2) :
    ∃ fd, Md P w K mg base CX0 2 (He.ga K "Floor") "corners" (He.ma K (He.ga K "Floor") "corners") fd ["self"] (sp_Floor_m_corners K) := by
  obtain ⟨fd, F⟩ := Z.def_ 15 (d := d_Floor_m_corners) rfl
  obtain ⟨fd_in_order, G_in_order⟩ := ok_in_order (P := P) (w := w) (base := base) Z TB
  obtain ⟨fd_corners_of, G_corners_of⟩ := ok_corners_of (P := P) (w := w) (base := base) Z
  refine ⟨fd, FunD.ok F sc_Floor_m_corners (fun vs H Q E h => lenN1 h) fun cdv A outer s H vs Q E hr h => ?_, He.cls_ok (Z.fact 48 (f := .cls "Floor") rfl), He.meth_ok (Z.fact 57 (f := .meth "Floor" "corners") rfl), FunD.bindsN F (ps := ["self"]) fun _ _ _ _ _ _ us hl => match us, hl with | [_], _ => rfl⟩
  have hu0 := hr.units0
  have hu1 := hu_of hr
  have hu64 := hr.units
  have hu65 := hu65_of hr
  refine ⟨_, PSs.nox (pss_cons (ps_setDcT2 (i := 1) (own := [("cell", 2), ("corner", 3)]) hu1 rfl sc_Floor_m_corners.nd rfl rfl (sw_dc rfl rfl rfl (by decide +kernel)) (pi_anyK K (pe_fldK K (pv 0))) (blkOk_by (own := [("cell", 2), ("corner", 3)]) (N := n_Floor_m_corners) (sc := defScope s_Floor_m_corners) (by decide +kernel)) (vs1 := [3]) (by decide) (fun _ _ _ _ _ => by exact (pg_name (i := 2) sc_Floor_m_corners.nd rfl (Or.inl rfl))) (fun _ _ _ _ _ => by exact pts_nil) (fun _ _ _ _ _ => by exact (pi_anyK K (pe_fd G_corners_of (hr.mono (by decide)) pass0 (pa_cons (pv 2) pa_nil)))) (fun _ _ _ _ _ => by exact (pg_name (i := 3) sc_Floor_m_corners.nd rfl (Or.inl rfl))) (fun _ _ _ _ _ => by exact pts_nil) (fun _ _ _ _ _ => by exact (pv 3)) (fun _ _ _ _ _ => by exact pe_bl))
      (pss_one (ps_ret (pe_fd G_in_order (hr.mono (by decide)) pass0 (pa_cons (pe_callTy (crK rListU K (ucall_list rfl)) (by rfl) (Z.free 81 (x := "list") rfl) (by decide +kernel) (pa_cons (pv 1) pa_nil)) pa_nil))))), ?_⟩
  refine puN1 h fun F v f hv r pre st k => ?_
  subst hv
  obtain ⟨hf, hl⟩ := pre
  have cl : Cls K f.cls := by rw [hf]; exact He.cls_ok (Z.fact 48 (f := .cls "Floor") rfl)
  have na : NoAttr K f.cls "_cells" := by rw [hf]; exact He.noat_ok (Z.fact 51 (f := .noat "Floor" "_cells") rfl)
  refine s_asg (x := cornersD f.cells) ?_ st fun v1 F1 H1 s1 st1 r1 => ?_
  · have e2 : cornersD f.cells = (f.cells.filter fun _ => true).foldl (fun a x => ((corners4 x).filter fun _ => true).foldl (fun a y => a.put y true) a) (⟨[]⟩ : Dc Bool) := by
      rw [List.filter_eq_self.mpr fun _ _ => rfl]
      rfl
    rw [e2]
    refine ev_dcT2 (xs := f.cells) (ys := corners4) (p := fun _ => true) (p1 := fun _ _ => true) (fk := fun _ y => y) (fv := fun _ _ => true) (m := 4) ?_ (fun x _ => by simp [corners4]) (by omega) fun F1 x u l hx rx => ⟨_, eg_name, rfl, et_true, fun _ => ⟨?_, fun F2 y u2 l2 hy ry => ⟨_, eg_name, rfl, et_true, fun _ => ⟨ev_var rfl ry, ev_bool⟩⟩⟩⟩
    · exact ei_any (ev_fld2 (ev_var rfl r) cl na)
    · exact ei_any (ev_call1 (f := corners4) (pre := fun _ => True) (ev_var rfl rx) trivial)
  · dsimp only
    exact s_retN (x := cornersOf f) (ev_call1N (f := inOrder) (pre := fun _ => True) (ev_dKeys (ev_var rfl r1)) trivial) st1 k
def n_Floor_m_is_inner : List Str := ["self", "corner", "place"]
theorem sc_Floor_m_is_inner : FnScope n_Floor_m_is_inner ["self", "corner"] (defScope s_Floor_m_is_inner) := ⟨rfl, rfl, rfl, by decide +kernel, rfl, by decide +kernel, by decide +kernel⟩
theorem ok_Floor_m_is_inner {P : Program} {w : World} {K : PySem.W.Frag} {mg : Str → Option Value} {base : Heap} (Z : Top hfa hfn K mg) :
    ∃ fd, Md P w K mg base CX0 2 (He.ga K "Floor") "_is_inner" (He.ma K (He.ga K "Floor") "_is_inner") fd ["self", "corner"] (sp_Floor_m_is_inner K) := by
  obtain ⟨fd, F⟩ := Z.def_ 17 (d := d_Floor_m_is_inner) rfl
  obtain ⟨fd_places_round, G_places_round⟩ := ok_places_round (P := P) (w := w) (base := base) Z
  refine ⟨fd, FunD.ok F sc_Floor_m_is_inner (fun vs H Q E h => len2 h) fun cdv A outer s H vs Q E hr h => ?_, He.cls_ok (Z.fact 48 (f := .cls "Floor") rfl), He.meth_ok (Z.fact 59 (f := .meth "Floor" "_is_inner") rfl), FunD.bindsN F (ps := ["self", "corner"]) fun _ _ _ _ _ _ us hl => match us, hl with | [_, _], _ => rfl⟩
  have hu0 := hr.units0
  have hu1 := hu_of hr
  have hu64 := hr.units
  have hu65 := hu65_of hr
  refine ⟨_, PSs.nox (pss_one (ps_ret (pe_callB (crK rAll K (cr_all rfl)) (by rfl) (Z.free 75 (x := "all") rfl) (by decide +kernel) (pa_cons (pe_lc (own := [("place", 2)]) rfl sc_Floor_m_is_inner.nd (pi_anyK K (pe_fd G_places_round (hr.mono (by decide)) pass0 (pa_cons (pv 1) pa_nil))) (blkOk_by (own := [("place", 2)]) (N := n_Floor_m_is_inner) (sc := defScope s_Floor_m_is_inner) (by decide +kernel)) (fun _ _ _ _ _ => by exact (pg_name (i := 2) sc_Floor_m_is_inner.nd rfl (Or.inl rfl))) (fun _ _ _ _ _ => by exact pts_nil) (fun _ _ _ _ _ => by exact (pe_cmp (pc_inK K hu65 (pv 2) (pe_fldK K (pv 0)))))) pa_nil)))), ?_⟩
  refine pu2 h fun F v w f p hv r1 r2 hf st k => ?_
  subst hv
  have cl : Cls K f.cls := by rw [hf]; exact He.cls_ok (Z.fact 48 (f := .cls "Floor") rfl)
  have na : NoAttr K f.cls "_known" := by rw [hf]; exact He.noat_ok (Z.fact 52 (f := .noat "Floor" "_known") rfl)
  refine s_ret (x := isInner f p) ?_ st k
  refine ev_all (ev_lc1 (f := inK f) (ei_any (ev_call1 (f := round4) (pre := fun _ => True) (ev_var rfl r2) trivial)) (by simp [round4]) fun F1 x u l hx rx => ?_)
  exact ev_dIn (k := x) (ev_var rfl rx) (ev_fld3 (ev_var rfl (r1.mono l)) cl na)
def n_Floor_m_inner : List Str := ["self", "corner"]
theorem sc_Floor_m_inner : FnScope n_Floor_m_inner ["self"] (defScope s_Floor_m_inner) := ⟨rfl, rfl, rfl, by decide +kernel, rfl, by decide +kernel, by decide +kernel⟩
theorem ok_Floor_m_inner {P : Program} {w : World} {K : PySem.W.Frag} {mg : Str → Option Value} {base : Heap} (Z : Top hfa hfn K mg) (TB : LamX.TabB base mg (He.cT K ("in_order", none)).1 (He.cT K ("in_order", none)).2) :
    ∃ fd, Md P w K mg base CX0 3 (He.ga K "Floor") "inner" (He.ma K (He.ga K "Floor") "inner") fd ["self"] (sp_Floor_m_inner K) := by
  obtain ⟨fd, F⟩ := Z.def_ 16 (d := d_Floor_m_inner) rfl
  obtain ⟨fd_Floor_corners, G_Floor_corners⟩ := ok_Floor_m_corners (P := P) (w := w) (base := base) Z TB
  obtain ⟨fd_Floor_is_inner, G_Floor_is_inner⟩ := ok_Floor_m_is_inner (P := P) (w := w) (base := base) Z
  refine ⟨fd, FunD.ok F sc_Floor_m_inner (fun vs H Q E h => lenN1 h) fun cdv A outer s H vs Q E hr h => ?_, He.cls_ok (Z.fact 48 (f := .cls "Floor") rfl), He.meth_ok (Z.fact 58 (f := .meth "Floor" "inner") rfl), FunD.bindsN F (ps := ["self"]) fun _ _ _ _ _ _ us hl => match us, hl with | [_], _ => rfl⟩
  have hu0 := hr.units0
  have hu1 := hu_of hr
  have hu64 := hr.units
  have hu65 := hu65_of hr
  refine ⟨_, PSs.nox (pss_one (ps_ret (pe_lc (own := [("corner", 1)]) rfl sc_Floor_m_inner.nd (pi_anyK K (pe_md0 (pv 0) G_Floor_corners (hr.mono (by decide)) pass0)) (blkOk_by (own := [("corner", 1)]) (N := n_Floor_m_inner) (sc := defScope s_Floor_m_inner) (by decide +kernel)) (fun _ _ _ _ _ => by exact (pg_name (i := 1) sc_Floor_m_inner.nd rfl (Or.inl rfl))) (fun _ _ _ _ _ => by exact (pts_one (pt_trK K (pe_md (pv 0) G_Floor_is_inner (hr.mono (by decide)) pass0 (pa_cons (pv 1) pa_nil))))) (fun _ _ _ _ _ => by exact (pv 1))))), ?_⟩
  refine puN1 h fun F v f hv r pre st k => ?_
  subst hv
  have e2 : innerOf f = ((cornersOf f).filter (isInner f)).map fun y => y := by rw [List.map_id']; rfl
  have big : (cornersOf f).length ≤ 100000 := by
    have h1 := corners_len f.cells ⟨[]⟩
    have h2 : (cornersOf f).length = (cornersD f.cells).l.length := by
      unfold cornersOf inOrder
      rw [List.length_mergeSort, Dc.keys_length]
    have h3 := pre.2
    have h4 : (cornersD f.cells).l.length ≤ 0 + f.cells.length * 4 := h1
    omega
  refine s_retN (x := innerOf f) ?_ st k
  rw [e2]
  refine ev_lcFN (ei_any (ev_m0N (f := cornersOf) (pre := okFl K) (ev_var rfl r) pre pre.1).ev) big fun F1 y u l hy ry => ⟨et_tr (ev_m1 (f := isInner) (pre := fun f _ => isFl K f) (ev_var rfl (r.mono l)) (ev_var rfl ry) pre.1 pre.1), fun _ => ev_var rfl ry⟩
def n__law_cell_at : List Str := ["_law_script", "_law_k"]
theorem sc__law_cell_at : FnScope n__law_cell_at ["_law_script", "_law_k"] (defScope s__law_cell_at) := ⟨rfl, rfl, rfl, by decide +kernel, rfl, by decide +kernel, by decide +kernel⟩
theorem ok__law_cell_at {P : Program} {w : World} {K : PySem.W.Frag} {mg : Str → Option Value} {base : Heap} (Z : Top hfa hfn K mg) :
    ∃ fd, Fd P w K mg base CX0 1 "_law_cell_at" (He.ga K "_law_cell_at") fd ["_law_script", "_law_k"] (sp__law_cell_at K) := by
  obtain ⟨fd, F⟩ := Z.def_ 25 (d := d__law_cell_at) rfl
  refine ⟨fd, FunD.ok F sc__law_cell_at (fun vs H Q E h => lenC2 h) fun cdv A outer s H vs Q E hr h => ?_, Z.glo 17 (x := "_law_cell_at") rfl, F.kp, FunD.bindsN F (ps := ["_law_script", "_law_k"]) fun _ _ _ _ _ _ us hl => match us, hl with | [_, _], _ => rfl⟩
  have hu0 := hr.units0
  have hu1 := hu_of hr
  have hu64 := hr.units
  have hu65 := hu65_of hr
  refine ⟨_, PSs.nox (pss_cons (ps_if (pt_cmp (pc_op (opK rLtU K (uop_lt hu0)) (pv 1) (pe_callB (crK rLenU K ucall_len) (by rfl) (Z.free 80 (x := "len") rfl) (by decide +kernel) (pa_cons (pv 0) pa_nil)))) (pss_one (ps_ret (pe_ixK K hu1 (pv 0) (pv 1)))) pss_nil)
      (pss_one (ps_ret pe_int))), ?_⟩
  obtain ⟨F, v, ns, k, hv, s0, t0, r, h0, q⟩ := h
  subst hv
  have st : Step (tabs K) F F H H := .refl s0 t0
  refine s_if (b := decide (k < ns.length)) (et_of (ev_lt (ev_var rfl (.int k)) (ev_lenC rfl r))) st (fun hb H1 s1 st1 => ?_) fun hb H1 s1 st1 => ?_
  · have hk : k < ns.length := by simpa using hb
    have e : ns[k.toNat]? = some (cellAt ns k) := by
      unfold cellAt
      rw [List.getElem?_eq_getElem (by omega)]
      rfl
    exact s_ret (x := cellAt ns k) (ev_ixC rfl r (ev_var rfl (.int k)) h0 e) st1 q
  · have hk : ¬ k < ns.length := by simpa using hb
    dsimp only [tNext]
    refine s_ret (x := cellAt ns k) ?_ st1 q
    have e : cellAt ns k = 0 := by
      unfold cellAt
      rw [List.getElem?_eq_none (by omega)]
      rfl
    rw [e]
    exact ev_int
def n__law_mixed : List Str := ["_law_number", "_law_k"]
theorem sc__law_mixed : FnScope n__law_mixed ["_law_number", "_law_k"] (defScope s__law_mixed) := ⟨rfl, rfl, rfl, by decide +kernel, rfl, by decide +kernel, by decide +kernel⟩
theorem ok__law_mixed {P : Program} {w : World} {K : PySem.W.Frag} {mg : Str → Option Value} {base : Heap} (Z : Top hfa hfn K mg) :
    ∃ fd, Fd P w K mg base CX0 1 "_law_mixed" (He.ga K "_law_mixed") fd ["_law_number", "_law_k"] (sp__law_mixed K) := by
  obtain ⟨fd, F⟩ := Z.def_ 26 (d := d__law_mixed) rfl
  refine ⟨fd, FunD.ok F sc__law_mixed (fun vs H Q E h => len2 h) fun cdv A outer s H vs Q E hr h => ?_, Z.glo 18 (x := "_law_mixed") rfl, F.kp, FunD.bindsN F (ps := ["_law_number", "_law_k"]) fun _ _ _ _ _ _ us hl => match us, hl with | [_, _], _ => rfl⟩
  have hu0 := hr.units0
  have hu1 := hu_of hr
  have hu64 := hr.units
  have hu65 := hu65_of hr
  refine ⟨_, PSs.nox (pss_one (ps_ret (pe_op op_mod (pe_op uop_add (pe_op uop_add (pe_op uop_mul (pv 0) pe_int) (pe_op uop_mul pe_int (pv 1))) pe_int) pe_int))), ?_⟩
  refine pu2 h fun F v w x y hv r1 r2 _ st k => ?_
  subst hv
  refine s_ret (x := mixed x y) ?_ st k
  exact ev_mod (ev_add (ev_add (ev_mul (ev_var rfl r1) ev_int (.inr (by decide))) (ev_mul ev_int (ev_var rfl r2) (.inl (by decide)))) ev_int) ev_int (by decide)
def n__law_turned_rows : List Str := ["_law_rows", "_law_x", "_law_row"]
theorem sc__law_turned_rows : FnScope n__law_turned_rows ["_law_rows"] (defScope s__law_turned_rows) := ⟨rfl, rfl, rfl, by decide +kernel, rfl, by decide +kernel, by decide +kernel⟩
theorem ok__law_turned_rows {P : Program} {w : World} {K : PySem.W.Frag} {mg : Str → Option Value} {base : Heap} (Z : Top hfa hfn K mg) :
    ∃ fd, Fd P w K mg base CX0 1 "_law_turned_rows" (He.ga K "_law_turned_rows") fd ["_law_rows"] (sp__law_turned_rows K) := by
  obtain ⟨fd, F⟩ := Z.def_ 27 (d := d__law_turned_rows) rfl
  refine ⟨fd, FunD.ok F sc__law_turned_rows (fun vs H Q E h => len1 h) fun cdv A outer s H vs Q E hr h => ?_, Z.glo 19 (x := "_law_turned_rows") rfl, F.kp, FunD.bindsN F (ps := ["_law_rows"]) fun _ _ _ _ _ _ us hl => match us, hl with | [_], _ => rfl⟩
  have hu0 := hr.units0
  have hu1 := hu_of hr
  have hu64 := hr.units
  have hu65 := hu65_of hr
  refine ⟨_, PSs.nox (pss_one (ps_ret (pe_lc (own := [("_law_x", 1)]) rfl sc__law_turned_rows.nd (pi_range1 (by rfl) (Z.free 84 (x := "range") rfl) (pa_cons (pe_callB (crK rLenU K ucall_len) (by rfl) (Z.free 80 (x := "len") rfl) (by decide +kernel) (pa_cons (pe_ixK K hu1 (pv 0) pe_int) pa_nil)) pa_nil)) (blkOk_by (own := [("_law_x", 1)]) (N := n__law_turned_rows) (sc := defScope s__law_turned_rows) (by decide +kernel)) (fun _ _ _ _ _ => by exact (pg_name (i := 1) sc__law_turned_rows.nd rfl (Or.inr rfl))) (fun _ _ _ _ _ => by exact pts_nil) (fun _ _ _ _ _ => by exact (pe_joinK K pe_str (pe_lc (own := [("_law_row", 2)]) rfl sc__law_turned_rows.nd (pi_anyK K (pv 0)) (blkOk_by (own := [("_law_row", 2)]) (by rfl)) (fun _ _ _ _ _ => by exact (pg_name (i := 2) sc__law_turned_rows.nd rfl (Or.inl rfl))) (fun _ _ _ _ _ => by exact pts_nil) (fun _ _ _ _ _ => by exact (pe_ixK K hu1 (pv 2) (pv 1))))))))), ?_⟩
  refine pu1 h fun F v rows hv r pre st k => ?_
  subst hv
  obtain ⟨ne, hl, hw, same⟩ := pre
  obtain ⟨r0, rr, rfl⟩ : ∃ a b, rows = a :: b := by
    cases rows with
    | nil => exact absurd rfl ne
    | cons a b => exact ⟨a, b, rfl⟩
  have hw' : r0.bs.length ≤ 50 := hw
  refine s_ret (x := turned (r0 :: rr)) ?_ st k
  refine ev_lc1 (xs := rangeI 0 (r0.bs.length : Int).toNat) ?_ ?_ fun F1 x u l hx rx => ?_
  · exact ei_range1 (ev_lenR (r := r0) (ev_ixL (ev_var rfl r) ev_int (by decide) rfl) (by omega)) (by omega) (by omega)
  · rw [rangeI_length]
    omega
  · have hx' := mem_rangeI.mp hx
    refine ev_joinR (rs := (r0 :: rr).map fun r => (⟨[r.bs.getD x.toNat false]⟩ : Row)) ?_ ?_
    · refine ev_lc1 (ei_any (ev_var rfl (r.mono l))) (by omega) fun F2 y u2 l2 hy ry => ?_
      have hs := same y hy
      have hw0 : wd (r0 :: rr) = r0.bs.length := rfl
      have hi : x.toNat < y.bs.length := by omega
      refine ev_ixR (ev_var rfl ry) (ev_var rfl (rx.mono l2)) hx'.1 (by omega) ?_
      rw [List.getD_eq_getElem?_getD, List.getElem?_eq_getElem hi]
      rfl
    · have key : ∀ l : List Row, ((l.map fun r => (⟨[r.bs.getD x.toNat false]⟩ : Row)).map fun r => r.bs.length).sum = l.length := by
        intro l
        induction l with
        | nil => rfl
        | cons a l ih =>
          simp only [List.map_cons, List.sum_cons, ih, List.length_cons, List.length_nil]
          omega
      rw [key]
      omega
def n__law_rows_by : List Str := ["_law_cell", "_law_more", "_law_even", "_law_width", "_law_rows", "_law_low", "_law_high", "_law_y", "_law_number", "_law_size", "_law_least", "_law_begin"]
theorem sc__law_rows_by : FnScope n__law_rows_by ["_law_cell", "_law_more", "_law_even"] (defScope s__law_rows_by) := ⟨rfl, rfl, rfl, by decide +kernel, rfl, by decide +kernel, by decide +kernel⟩
theorem ok__law_rows_by {P : Program} {w : World} {K : PySem.W.Frag} {mg : Str → Option Value} {base : Heap} (Z : Top hfa hfn K mg) :
    ∃ fd, Fd P w K mg base CX0 2 "_law_rows_by" (He.ga K "_law_rows_by") fd ["_law_cell", "_law_more", "_law_even"] (sp__law_rows_by K) := by
  obtain ⟨fd, F⟩ := Z.def_ 28 (d := d__law_rows_by) rfl
  obtain ⟨fd__law_mixed, G__law_mixed⟩ := ok__law_mixed (P := P) (w := w) (base := base) Z
  refine ⟨fd, FunD.ok F sc__law_rows_by (fun vs H Q E h => len3 h) fun cdv A outer s H vs Q E hr h => ?_, Z.glo 20 (x := "_law_rows_by") rfl, F.kp, FunD.bindsN F (ps := ["_law_cell", "_law_more", "_law_even"]) fun _ _ _ _ _ _ us hl => match us, hl with | [_, _, _], _ => rfl⟩
  have hu0 := hr.units0
  have hu1 := hu_of hr
  have hu64 := hr.units
  have hu65 := hu65_of hr
  refine ⟨_, PSs.nox (pss_cons (ps_set (i := 3) sc__law_rows_by.nd rfl (Or.inl rfl) (pe_op uop_add pe_int (pe_op op_mod (pv 0) pe_int)))
      (pss_cons (ps_set (i := 4) sc__law_rows_by.nd rfl (Or.inl rfl) (pe_lst pa_nil))
      (pss_cons (ps_par (i := 5) (j := 6) rfl sc__law_rows_by.nd rfl rfl (by decide) rfl rfl (pa_cons pe_int (pa_cons (pe_op op_sub (pv 3) pe_int) pa_nil)) (by rfl))
      (pss_cons (ps_for PassesOwn.never rfl (pi_range1 (by rfl) (Z.free 84 (x := "range") rfl) (pa_cons (pe_op uop_add pe_int (pe_op op_mod (pe_op op_fdiv (pv 0) pe_int) pe_int)) pa_nil)) (pg_name (i := 7) sc__law_rows_by.nd rfl (Or.inl rfl)) (pss_cons (ps_set (i := 8) sc__law_rows_by.nd rfl (Or.inl rfl) (pe_fd G__law_mixed (hr.mono (by decide)) pass0 (pa_cons (pv 1) (pa_cons (pv 7) pa_nil))))
      (pss_cons (ps_set (i := 9) sc__law_rows_by.nd rfl (Or.inl rfl) (pe_ifExp (pt_trK K (pv 2)) (pe_op uop_mul pe_int (pe_op uop_add pe_int (pe_op op_mod (pv 8) (pe_op op_fdiv (pv 3) pe_int)))) (pe_op uop_add pe_int (pe_op op_mod (pv 8) (pv 3)))))
      (pss_cons (ps_set (i := 10) sc__law_rows_by.nd rfl (Or.inl rfl) (pe_callB (call_max2 rfl) (by rfl) (Z.free 82 (x := "max") rfl) (by decide +kernel) (pa_cons pe_int (pa_cons (pe_op uop_add (pe_op op_sub (pv 5) (pv 9)) pe_int) pa_nil))))
      (pss_cons (ps_set (i := 11) sc__law_rows_by.nd rfl (Or.inl rfl) (pe_op uop_add (pv 10) (pe_op op_mod (pe_op op_fdiv (pv 8) pe_int) (pe_op uop_add (pe_op op_sub (pe_callB (call_min2 rfl) (by rfl) (Z.free 83 (x := "min") rfl) (by decide +kernel) (pa_cons (pe_op op_sub (pv 3) (pv 9)) (pa_cons (pv 6) pa_nil))) (pv 10)) pe_int))))
      (pss_cons (ps_expr (pe_bmK K PySem.F.plainAttrs_list PySem.F.slot_list_append PySem.F.type_list_append mt_append (pv 4) (pa_cons (pe_op uop_add (pe_op uop_add (pe_op uop_mul pe_str (pv 11)) (pe_op uop_mul pe_str (pv 9))) (pe_op uop_mul pe_str (pe_op op_sub (pe_op op_sub (pv 3) (pv 11)) (pv 9)))) pa_nil)))
      (pss_one (ps_par (i := 5) (j := 6) rfl sc__law_rows_by.nd rfl rfl (by decide) rfl rfl (pa_cons (pv 11) (pa_cons (pe_op op_sub (pe_op uop_add (pv 11) (pv 9)) pe_int) pa_nil)) (by rfl)))))))))
      (pss_one (ps_ret (pv 4))))))), ?_⟩
  refine pu3 h fun F v w u cell more even hv r1 r2 r3 _ st k => ?_
  subst hv
  cases rv_int r1
  cases rv_int r2
  cases rv_bool r3
  have hw : 2 ≤ 2 + cell % 5 ∧ 2 + cell % 5 ≤ 6 := by omega
  refine s_asg (x := 2 + cell % 5) (ev_add ev_int (ev_mod (ev_var rfl (.int cell)) ev_int (by decide))) st fun v1 F1 H1 s1 st1 rv1 => ?_
  cases rv_int rv1
  generalize hwd : 2 + cell % 5 = w at hw
  dsimp only
  refine s_ownL (xs := ([] : BR)) .nil (by show 0 ≤ 1000; decide) st1 fun p F2 H2 s2 st2 np o2 => ?_
  dsimp only
  refine s_par (tr := tNil) (x := (0 : Int)) (y := w - 1) ev_int (ev_sub (ev_var rfl (.int w)) ev_int) st2 fun va vb F3 H3 s3 st3 ra rb => ?_
  cases rv_int ra
  cases rv_int rb
  have o3 := o2.step s3
  dsimp only
  have g0 : DrOk w ⟨[], 0, w - 1⟩ := ⟨hw.1, hw.2, by show (0 : Int) ≤ 0; omega, by show (0 : Int) ≤ w - 1; omega, by show w - 1 ≤ w - 1; omega⟩
  refine s_for (es := (rangeI 0 (1 + cell / 5 % 6).toNat).map d) ?_ st3 (fun i σ F H => ∃ a b c e f, let g := ((rangeI 0 (1 + cell / 5 % 6).toNat).take i).foldl (drStep w more even) ⟨[], 0, w - 1⟩
    DrOk w g ∧ g.rows.length = ((rangeI 0 (1 + cell / 5 % 6).toNat).take i).length ∧ σ = [some (.int cell), some (.int more), some (.bl even), some (.int w), some (.ref p), some (.int g.lo), some (.int g.hi), a, b, c, e, f] ∧ Own F H p g.rows) ?_ ?_ ?_
  · exact ei_range1 (ev_add ev_int (ev_mod (ev_fdiv (ev_var rfl (.int cell)) ev_int (by decide)) ev_int (by decide))) (by omega) (by omega)
  · intro F4 H4 s4
    exact ⟨_, _, _, _, _, g0, rfl, rfl, o3.step s4⟩
  · rintro i e u4 σ4 F4 H4 F5 H5 he l4 st4 ⟨xa, xb, xc, xd, xe, gk, gl, rfl, o4⟩ s5 re N hN
    have hi : i < (rangeI 0 (1 + cell / 5 % 6).toNat).length := by
      have := (List.getElem?_eq_some_iff.mp he).1
      simpa using this
    obtain ⟨y, hy⟩ : ∃ y, (rangeI 0 (1 + cell / 5 % 6).toNat)[i]? = some y := ⟨_, List.getElem?_eq_getElem hi⟩
    rw [List.getElem?_map, hy] at he
    cases he
    cases rv_int re
    have tk := take_snoc hy
    have gi : ((rangeI 0 (1 + cell / 5 % 6).toNat).take (i + 1)).foldl (drStep w more even) ⟨[], 0, w - 1⟩ = drStep w more even (((rangeI 0 (1 + cell / 5 % 6).toNat).take i).foldl (drStep w more even) ⟨[], 0, w - 1⟩) y := by
      rw [tk, List.foldl_append]
      rfl
    have gl2 : ((rangeI 0 (1 + cell / 5 % 6).toNat).take (i + 1)).length = ((rangeI 0 (1 + cell / 5 % 6).toNat).take i).length + 1 := by
      rw [tk, List.length_append]
      rfl
    have o5 := o4.step s5
    have st5 := st4.trans s5
    have small : ((rangeI 0 (1 + cell / 5 % 6).toNat).take i).length ≤ 6 := by
      rw [List.length_take, rangeI_length]
      omega
    generalize hg : ((rangeI 0 (1 + cell / 5 % 6).toNat).take i).foldl (drStep w more even) ⟨[], 0, w - 1⟩ = g at gk gl o5 gi
    refine eg_name H5 st5.sub _ ?_
    dsimp only
    have sz := drSize_ok (more := more) (even := even) (y := y) gk.w2 gk.w6
    have bg := drBegin_ok (more := more) (y := y) gk sz.1 sz.2
    refine s_asg (x := mixed more y) (ev_call2 (f := mixed) (pre := fun _ _ => True) (x := more) (y := y) (ev_var rfl (.int more)) (ev_var rfl (.int y)) trivial) st5 fun v6 F6 H6 s6 st6 rv6 => ?_
    cases rv_int rv6
    dsimp only
    refine s_asg (x := drSize w more even y) ?_ st6 fun v7 F7 H7 s7 st7 rv7 => ?_
    · exact ev_ite (b := even) (et_tr (ev_var rfl (.bl even))) (ev_mul ev_int (ev_add ev_int (ev_mod (ev_var rfl (.int _)) (ev_fdiv (ev_var rfl (.int w)) ev_int (by decide)) (by omega))) (.inl (by decide))) (ev_add ev_int (ev_mod (ev_var rfl (.int _)) (ev_var rfl (.int w)) (by omega)))
    cases rv_int rv7
    generalize hsz : drSize w more even y = z at sz bg
    dsimp only
    refine s_asg (x := drLeast g z) (ev_max2 ev_int (ev_add (ev_sub (ev_var rfl (.int g.lo)) (ev_var rfl (.int z))) ev_int)) st7 fun v8 F8 H8 s8 st8 rv8 => ?_
    cases rv_int rv8
    dsimp only
    refine s_asg (x := drBegin w more g z y) (ev_add (ev_var rfl (.int _)) (ev_mod (ev_fdiv (ev_var rfl (.int _)) ev_int (by decide)) (ev_add (ev_sub (ev_min2 (ev_sub (ev_var rfl (.int w)) (ev_var rfl (.int z))) (ev_var rfl (.int g.hi))) (ev_var rfl (.int _))) ev_int) (drMod_pos (more := more) gk sz.1 sz.2))) st8 fun v9 F9 H9 s9 st9 rv9 => ?_
    cases rv_int rv9
    generalize hbg : drBegin w more g z y = b at bg
    have o9 := (((o5.step s6).step s7).step s8).step s9
    dsimp only
    have w6 := gk.w6
    refine s_app (p := p) (x := stretch w b z) rfl o9 ?_ st9 np (by omega) fun F10 H10 l10 st10 o10 _ _ => ?_
    · refine ev_catR (a := ⟨List.replicate b.toNat false ++ List.replicate z.toNat true⟩) (b := ⟨List.replicate (w - b - z).toNat false⟩) (ev_catR (a := ⟨List.replicate b.toNat false⟩) (b := ⟨List.replicate z.toNat true⟩) (ev_mulR (ev_row (by decide +kernel)) (ev_var rfl (.int b)) (by omega) (by omega)) (ev_mulR (ev_row (by decide +kernel)) (ev_var rfl (.int z)) (by omega) (by omega)) ?_) (ev_mulR (ev_row (by decide +kernel)) (ev_sub (ev_sub (ev_var rfl (.int w)) (ev_var rfl (.int b))) (ev_var rfl (.int z))) (by omega) (by omega)) ?_
      · simp only [List.length_replicate]
        omega
      · simp only [List.length_append, List.length_replicate]
        omega
    · dsimp only
      refine s_par (tr := tNil) (x := b) (y := b + z - 1) (ev_var rfl (.int b)) (ev_sub (ev_add (ev_var rfl (.int b)) (ev_var rfl (.int z))) ev_int) st10 fun vx vy F11 H11 s11 st11 rx ry => ?_
      cases rv_int rx
      cases rv_int ry
      have l5 : Same F5 F11 := s6.ff.trans (s7.ff.trans (s8.ff.trans (s9.ff.trans (l10.trans s11.ff))))
      have es : drStep w more even g y = ⟨g.rows ++ [stretch w b z], b, b + z - 1⟩ := by
        unfold drStep
        rw [hsz, hbg]
      refine hN _ F11 H11 l5 st11 ⟨some (.int y), some (.int (mixed more y)), some (.int z), some (.int (drLeast g z)), some (.int b), ?_, ?_, ?_, ?_⟩
      · rw [gi]
        exact drStep_ok gk
      · rw [gi, es, gl2, ← gl]
        simp
      · rw [gi, es]
        rfl
      · rw [gi, es]
        exact o10.step s11
  · rintro σ4 F4 H4 l4 st4 ⟨xa, xb, xc, xd, xe, gk, gl, rfl, o4⟩
    rw [List.length_map, List.take_length] at o4
    dsimp only
    obtain ⟨F5, l5, st5, r5⟩ := o4.out st4 np
    refine s_ret (x := rowsBy cell more even) ?_ st5 k
    have e : rowsBy cell more even = ((rangeI 0 (1 + cell / 5 % 6).toNat).foldl (drStep w more even) ⟨[], 0, w - 1⟩).rows := by
      unfold rowsBy
      rw [hwd]
    rw [e]
    exact ev_var rfl r5
def n__law_marks : List Str := ["_law_error", "_law_found"]
theorem sc__law_marks : FnScope n__law_marks ["_law_error"] (defScope s__law_marks) := ⟨rfl, rfl, rfl, by decide +kernel, rfl, by decide +kernel, by decide +kernel⟩
theorem ok__law_marks {P : Program} {w : World} {K : PySem.W.Frag} {mg : Str → Option Value} {base : Heap} (Z : Top hfa hfn K mg) (Ks : Kinds K) {c : Str} (hc : c ∈ markNames) {pin : Addr × Obj} (hz : Zc (.ref (He.ga K c)) none pin.2) (hf : ∃ vs, pin.2.data = .fields vs) :
    ∃ fd, Fd1 P w K mg base 1 "_law_marks" (He.ga K "_law_marks") fd ["_law_error"] pin (sp_marks K pin c) := by
  obtain ⟨fd, F⟩ := Z.def_ 39 (d := d__law_marks) rfl
  have hC := Ks.exc c hc
  refine ⟨fd, fnP1_of F sc__law_marks (fun {vs H Q E} h => by obtain ⟨F, rfl, _⟩ := h; rfl) fun cd A outer s H vs Q E hot hr h => ?_, Z.glo 31 (x := "_law_marks") rfl, F.kp, FunD.bindsN F (ps := ["_law_error"]) fun _ _ _ _ _ _ us hl => match us, hl with | [_], _ => rfl⟩
  refine ⟨_, PSs.nox (pss_cons (ps_set (i := 1) sc__law_marks.nd rfl (Or.inl rfl) (pe_lst (pa_cons (pe_callB (crK (fun K => rIsE K (He.ga K c) pin.1) K (call_isP (a := pin.1) (oe := pin.2) hC (List.mem_singleton.mpr rfl) hz hf)) (by rfl) (Z.free 79 (x := "isinstance") rfl) (by decide +kernel) (pa_cons (pv 0) (pa_cons (pe_glob (v := .ref (He.ga K "BadFloor")) (by rfl) (Z.glo 38 (x := "BadFloor") rfl) rfl) pa_nil))) (pa_cons (pe_callB (crK (fun K => rIsE K (He.ga K c) pin.1) K (call_isP (a := pin.1) (oe := pin.2) hC (List.mem_singleton.mpr rfl) hz hf)) (by rfl) (Z.free 79 (x := "isinstance") rfl) (by decide +kernel) (pa_cons (pv 0) (pa_cons (pe_glob (v := .ref (He.ga K "Parted")) (by rfl) (Z.glo 39 (x := "Parted") rfl) rfl) pa_nil))) (pa_cons (pe_callB (crK (fun K => rIsE K (He.ga K c) pin.1) K (call_isP (a := pin.1) (oe := pin.2) hC (List.mem_singleton.mpr rfl) hz hf)) (by rfl) (Z.free 79 (x := "isinstance") rfl) (by decide +kernel) (pa_cons (pv 0) (pa_cons (pe_glob (v := .ref (He.ga K "Holed")) (by rfl) (Z.glo 40 (x := "Holed") rfl) rfl) pa_nil))) pa_nil)))))
      (pss_cons (ps_set (i := 1) sc__law_marks.nd rfl (Or.inl rfl) (pe_op uop_add (pv 1) (pe_lst (pa_cons (pe_callB (crK (fun K => rIsE K (He.ga K c) pin.1) K (call_isP (a := pin.1) (oe := pin.2) hC (List.mem_singleton.mpr rfl) hz hf)) (by rfl) (Z.free 79 (x := "isinstance") rfl) (by decide +kernel) (pa_cons (pv 0) (pa_cons (pe_glob (v := .ref (He.ga K "NoCell")) (by rfl) (Z.glo 41 (x := "NoCell") rfl) rfl) pa_nil))) (pa_cons (pe_callB (crK (fun K => rIsE K (He.ga K c) pin.1) K (call_isP (a := pin.1) (oe := pin.2) hC (List.mem_singleton.mpr rfl) hz hf)) (by rfl) (Z.free 79 (x := "isinstance") rfl) (by decide +kernel) (pa_cons (pv 0) (pa_cons (pe_glob (v := .ref (He.ga K "BadLaying")) (by rfl) (Z.glo 42 (x := "BadLaying") rfl) rfl) pa_nil))) (pa_cons (pe_callB (crK (fun K => rIsE K (He.ga K c) pin.1) K (call_isP (a := pin.1) (oe := pin.2) hC (List.mem_singleton.mpr rfl) hz hf)) (by rfl) (Z.free 79 (x := "isinstance") rfl) (by decide +kernel) (pa_cons (pv 0) (pa_cons (pe_glob (v := .ref (He.ga K "NoLaying")) (by rfl) (Z.glo 43 (x := "NoLaying") rfl) rfl) pa_nil))) pa_nil))))))
      (pss_cons (ps_set (i := 1) sc__law_marks.nd rfl (Or.inl rfl) (pe_op uop_add (pv 1) (pe_lst (pa_cons (pe_callB (crK (fun K => rIsE K (He.ga K c) pin.1) K (call_isP (a := pin.1) (oe := pin.2) hC (List.mem_singleton.mpr rfl) hz hf)) (by rfl) (Z.free 79 (x := "isinstance") rfl) (by decide +kernel) (pa_cons (pv 0) (pa_cons (pe_glob (v := .ref (He.ga K "NoHeights")) (by rfl) (Z.glo 44 (x := "NoHeights") rfl) rfl) pa_nil))) (pa_cons (pe_callB (crK (fun K => rIsE K (He.ga K c) pin.1) K (call_isP (a := pin.1) (oe := pin.2) hC (List.mem_singleton.mpr rfl) hz hf)) (by rfl) (Z.free 79 (x := "isinstance") rfl) (by decide +kernel) (pa_cons (pv 0) (pa_cons (pe_glob (v := .ref (He.ga K "NoTurn")) (by rfl) (Z.glo 45 (x := "NoTurn") rfl) rfl) pa_nil))) (pa_cons (pe_callB (crK (fun K => rIsE K (He.ga K c) pin.1) K (call_isP (a := pin.1) (oe := pin.2) hC (List.mem_singleton.mpr rfl) hz hf)) (by rfl) (Z.free 79 (x := "isinstance") rfl) (by decide +kernel) (pa_cons (pv 0) (pa_cons (pe_glob (v := .ref (He.ga K "BadText")) (by rfl) (Z.glo 46 (x := "BadText") rfl) rfl) pa_nil))) pa_nil))))))
      (pss_one (ps_ret (pe_op uop_add (pv 1) (pe_lst (pa_cons (pe_callB (crK (fun K => rIsE K (He.ga K c) pin.1) K (call_isP (a := pin.1) (oe := pin.2) hC (List.mem_singleton.mpr rfl) hz hf)) (by rfl) (Z.free 79 (x := "isinstance") rfl) (by decide +kernel) (pa_cons (pv 0) (pa_cons (pe_glob (v := .ref (He.ga K "FloorError")) (by rfl) (Z.glo 37 (x := "FloorError") rfl) rfl) pa_nil))) (pa_cons (pe_callB (crK (fun K => rIsE K (He.ga K c) pin.1) K (call_isP (a := pin.1) (oe := pin.2) hC (List.mem_singleton.mpr rfl) hz hf)) (by rfl) (Z.free 79 (x := "isinstance") rfl) (by decide +kernel) (pa_cons (pv 0) (pa_cons (pe_bltn (by rfl) (Z.free 73 (x := "ValueError") rfl) (by decide +kernel) (v := .ty "ValueError") rfl) pa_nil))) pa_nil))))))))), ?_⟩
  obtain ⟨F0, hv, s0, t0, q⟩ := h
  subst hv
  have st : Step (tabs K) F0 F0 H H := .refl s0 t0
  refine s_asg (x := [decide (("BadFloor" : Str) = c ∨ ("BadFloor" : Str) = "FloorError"), decide (("Parted" : Str) = c ∨ ("Parted" : Str) = "FloorError"), decide (("Holed" : Str) = c ∨ ("Holed" : Str) = "FloorError")]) ?_ st fun v1 F1 H1 s1 st1 r1 => ?_
  · exact ev_list (.cons (ev_isE (x := "") rfl (fun u e => e) (Ks.kit c hc _ (by decide))) (.cons (ev_isE (x := "") rfl (fun u e => e) (Ks.kit c hc _ (by decide))) (.cons (ev_isE (x := "") rfl (fun u e => e) (Ks.kit c hc _ (by decide))) .nil)))
  dsimp only
  refine s_asg (x := [decide (("BadFloor" : Str) = c ∨ ("BadFloor" : Str) = "FloorError"), decide (("Parted" : Str) = c ∨ ("Parted" : Str) = "FloorError"), decide (("Holed" : Str) = c ∨ ("Holed" : Str) = "FloorError")] ++ [decide (("NoCell" : Str) = c ∨ ("NoCell" : Str) = "FloorError"), decide (("BadLaying" : Str) = c ∨ ("BadLaying" : Str) = "FloorError"), decide (("NoLaying" : Str) = c ∨ ("NoLaying" : Str) = "FloorError")]) (ev_cat (ev_var rfl r1) (ev_list (.cons (ev_isE (x := "") rfl (fun u e => e) (Ks.kit c hc _ (by decide))) (.cons (ev_isE (x := "") rfl (fun u e => e) (Ks.kit c hc _ (by decide))) (.cons (ev_isE (x := "") rfl (fun u e => e) (Ks.kit c hc _ (by decide))) .nil)))) (by show 3 + 3 ≤ 100000; decide)) st1 fun v2 F2 H2 s2 st2 r2 => ?_
  dsimp only
  refine s_asg (x := ([decide (("BadFloor" : Str) = c ∨ ("BadFloor" : Str) = "FloorError"), decide (("Parted" : Str) = c ∨ ("Parted" : Str) = "FloorError"), decide (("Holed" : Str) = c ∨ ("Holed" : Str) = "FloorError")] ++ [decide (("NoCell" : Str) = c ∨ ("NoCell" : Str) = "FloorError"), decide (("BadLaying" : Str) = c ∨ ("BadLaying" : Str) = "FloorError"), decide (("NoLaying" : Str) = c ∨ ("NoLaying" : Str) = "FloorError")]) ++ [decide (("NoHeights" : Str) = c ∨ ("NoHeights" : Str) = "FloorError"), decide (("NoTurn" : Str) = c ∨ ("NoTurn" : Str) = "FloorError"), decide (("BadText" : Str) = c ∨ ("BadText" : Str) = "FloorError")]) (ev_cat (ev_var rfl r2) (ev_list (.cons (ev_isE (x := "") rfl (fun u e => e) (Ks.kit c hc _ (by decide))) (.cons (ev_isE (x := "") rfl (fun u e => e) (Ks.kit c hc _ (by decide))) (.cons (ev_isE (x := "") rfl (fun u e => e) (Ks.kit c hc _ (by decide))) .nil)))) (by show 6 + 3 ≤ 100000; decide)) st2 fun v3 F3 H3 s3 st3 r3 => ?_
  dsimp only
  refine s_ret (x := marks c) ?_ st3 q
  have e : marks c = (([decide (("BadFloor" : Str) = c ∨ ("BadFloor" : Str) = "FloorError"), decide (("Parted" : Str) = c ∨ ("Parted" : Str) = "FloorError"), decide (("Holed" : Str) = c ∨ ("Holed" : Str) = "FloorError")] ++ [decide (("NoCell" : Str) = c ∨ ("NoCell" : Str) = "FloorError"), decide (("BadLaying" : Str) = c ∨ ("BadLaying" : Str) = "FloorError"), decide (("NoLaying" : Str) = c ∨ ("NoLaying" : Str) = "FloorError")]) ++ [decide (("NoHeights" : Str) = c ∨ ("NoHeights" : Str) = "FloorError"), decide (("NoTurn" : Str) = c ∨ ("NoTurn" : Str) = "FloorError"), decide (("BadText" : Str) = c ∨ ("BadText" : Str) = "FloorError")]) ++ [decide (("FloorError" : Str) = c ∨ ("FloorError" : Str) = "FloorError"), true] := rfl
  rw [e]
  exact ev_cat (ev_var rfl r3) (ev_list (.cons (ev_isE (x := "") rfl (fun u e => e) (Ks.kit c hc _ (by decide))) (.cons (ev_isE (x := "") rfl (fun u e => e) (Ks.val c hc)) .nil))) (by show 9 + 2 ≤ 100000; decide)
def n__law_alone : List Str := ["_law_error", "_law_place", "_law_k"]
theorem sc__law_alone : FnScope n__law_alone ["_law_error", "_law_place"] (defScope s__law_alone) := ⟨rfl, rfl, rfl, by decide +kernel, rfl, by decide +kernel, by decide +kernel⟩
theorem ok__law_alone {P : Program} {w : World} {K : PySem.W.Frag} {mg : Str → Option Value} {base : Heap} (Z : Top hfa hfn K mg) (Ks : Kinds K) {c : Str} (hc : c ∈ markNames) (hc2 : c ≠ "FloorError") {pin : Addr × Obj} (hz : Zc (.ref (He.ga K c)) none pin.2) (hf : ∃ vs, pin.2.data = .fields vs) :
    ∃ fd, Fd1 P w K mg base 2 "_law_alone" (He.ga K "_law_alone") fd ["_law_error", "_law_place"] pin (sp_alone K pin c) := by
  obtain ⟨fd, F⟩ := Z.def_ 40 (d := d__law_alone) rfl
  obtain ⟨fd__law_marks, G__law_marks⟩ := ok__law_marks (P := P) (w := w) (base := base) Z Ks hc hz hf
  have hC := Ks.exc c hc
  refine ⟨fd, fnP1_of F sc__law_alone (fun {vs H Q E} h => by obtain ⟨F, k, rfl, _⟩ := h; rfl) fun cd A outer s H vs Q E hot hr h => ?_, Z.glo 32 (x := "_law_alone") rfl, F.kp, FunD.bindsN F (ps := ["_law_error", "_law_place"]) fun _ _ _ _ _ _ us hl => match us, hl with | [_, _], _ => rfl⟩
  have hu64 := hu64_ofH hr
  refine ⟨_, PSs.nox (pss_one (ps_ret (pe_cmp (pc_op (opK rEqD K (op_eqD hu64)) (pe_fd1 G__law_marks (hr.mono (by decide)) hot (List.mem_singleton.mpr rfl) (pa_cons (pv 0) pa_nil)) (pe_lcH (own := [("_law_k", 2)]) ⟨pin, hot, List.mem_singleton.mpr rfl⟩ sc__law_alone.nd (L2H.pi_range1H (by rfl) (Z.free 84 (x := "range") rfl) (pa_cons pe_int pa_nil)) (blkOk_by (own := [("_law_k", 2)]) (N := n__law_alone) (sc := defScope s__law_alone) (by decide +kernel)) (fun _ _ _ _ _ _ => by exact (pg_name (i := 2) sc__law_alone.nd rfl (Or.inl rfl))) (fun _ _ _ _ _ _ => by exact pts_nil) (fun _ _ _ _ _ _ => by exact (pe_or (pe_cmp (pc_op (opK rEqD K (op_eqD hu64)) (pv 2) (pv 1))) (pe_one (pe_cmp (pc_op op_gt (pv 2) pe_int)))))))))), ?_⟩
  obtain ⟨F0, k, hv, k0, k8, s0, t0, q⟩ := h
  subst hv
  have st : Step (tabs K) F0 F0 H H := .refl s0 t0
  refine s_ret (x := decide (markNames[k.toNat]? = some c)) ?_ st q
  rw [← marks_eq hc hc2 k0 k8]
  refine ev_eqD (x := marks c) (y := asked k) (fun H1 s1 t1 Q1 q1 => ?_) (ev_lc1 (xs := rangeI 0 (11 : Int).toNat) (f := fun j => decide (j = k) || decide (8 < j)) ?_ ?_ fun F1 x u l hx rx => ?_)
  · exact ⟨_, rfl, F0, rfl, s1, t1, q1⟩
  · exact ei_range1 ev_int (by decide) (by decide)
  · rw [rangeI_length]
    decide
  · exact ev_orV (ev_eqD (x := x) (y := k) (ev_var rfl rx) (ev_var rfl (.int k))) fun _ => ev_cmpI (p := fun i j => decide (j < i)) (ev_var rfl rx) ev_int
end Tf

namespace Tf
open PySem PySem.Spec PyProof.Rows L2 Dt
def n_is_piece : List Str := ["floor", "thing", "one", "other"]
theorem sc_is_piece : FnScope n_is_piece ["floor", "thing"] (defScope s_is_piece) := ⟨rfl, rfl, rfl, by decide +kernel, rfl, by decide +kernel, by decide +kernel⟩
theorem ok_is_piece {P : Program} {w : World} {K : PySem.W.Frag} {mg : Str → Option Value} {base : Heap} (Z : Top hfa hfn K mg) :
    ∃ fd, Fd P w K mg base CX0 4 "is_piece" (He.ga K "is_piece") fd ["floor", "thing"] (sp_is_piece K) := by
  obtain ⟨fd, F⟩ := Z.def_ 18 (d := d_is_piece) rfl
  obtain ⟨fd_Floor_beside, G_Floor_beside⟩ := ok_Floor_m_beside (P := P) (w := w) (base := base) Z
  obtain ⟨fd_Floor_has, G_Floor_has⟩ := ok_Floor_m_has (P := P) (w := w) (base := base) Z
  refine ⟨fd, FunD.ok F sc_is_piece (fun vs H Q E h => len2 h) fun cdv A outer s H vs Q E hr h => ?_, Z.glo 10 (x := "is_piece") rfl, F.kp, FunD.bindsN F (ps := ["floor", "thing"]) fun _ _ _ _ _ _ us hl => match us, hl with | [_, _], _ => rfl⟩
  have hu0 := hr.units0
  have hu1 := hu_of hr
  have hu64 := hr.units
  have hu65 := hu65_of hr
  refine ⟨_, PSs.nox (pss_cons (ps_if (PW.pt (pw_or (pt_cmp (pc_op uop_isnot (pe_callTy (crK rTyp K call_type1) (by rfl) (Z.free 89 (x := "type") rfl) (by decide +kernel) (pa_cons (pv 1) pa_nil)) (pe_bltn (by rfl) (Z.free 88 (x := "tuple") rfl) (by decide +kernel) (v := .ty "tuple") rfl))) (pw_or1 (pt_cmp (pc_op (opK rNeD K (op_neD hu64)) (pe_callB (crK rLenU K ucall_len) (by rfl) (Z.free 80 (x := "len") rfl) (by decide +kernel) (pa_cons (pv 1) pa_nil)) pe_int))))) (pss_one (ps_ret pe_bl)) pss_nil)
      (pss_cons (ps_asg (pv 1) (pg_tupK K (n := 2) rfl (pgs_cons (pg_name (i := 2) sc_is_piece.nd rfl (Or.inl rfl)) (pgs_cons (pg_name (i := 3) sc_is_piece.nd rfl (Or.inl rfl)) pgs_nil))))
      (pss_one (ps_ret (pe_and (pe_md (pv 0) G_Floor_has (hr.mono (by decide)) pass0 (pa_cons (pv 2) pa_nil)) (pe_and (pe_md (pv 0) G_Floor_has (hr.mono (by decide)) pass0 (pa_cons (pv 3) pa_nil)) (pe_one (pe_cmp (pc_inK K hu65 (pv 3) (pe_md (pv 0) G_Floor_beside (hr.mono (by decide)) passN (pa_cons (pv 2) pa_nil))))))))))), ?_⟩
  refine pu2 h fun F v0 v f x hv r1 r pre st k => ?_
  subst hv
  obtain ⟨hf, pre⟩ := pre
  refine s_if (b := !isT2 x) ?_ st (fun hb H1 s1 st1 => ?_) fun hb H1 s1 st1 => ?_
  · by_cases e : tyName x = "tuple"
    · have hx : ∃ es, x = .tuple es := by
        cases x <;> simp_all [tyName]
      obtain ⟨es, rfl⟩ := hx
      refine evT_eq (et_or (et_of (ev_typeIs (x := PyData.tuple es) (ev_var rfl r) rfl)) fun _ => et_of (ev_neD (ev_lenT (ev_var rfl r)) ev_int)) ?_
      have e2 : isT2 (.tuple es) = decide ((es.length : Int) = 2) := by
        match es with
        | [] => rfl
        | [_] => rfl
        | [_, _] => rfl
        | _ :: _ :: _ :: r =>
          simp [isT2]
          omega
      rw [e2]
      simp [tyName, Dt.d]
    · refine evT_eq (et_or (a := true) (b := true) (evT_eq (et_of (ev_typeIs (x := x) (ev_var rfl r) pre.1)) (by simp [Dt.d, e])) fun z => by cases z) ?_
      have e2 : isT2 x = false := by
        cases x <;> simp_all [tyName, isT2]
      rw [e2]
      rfl
  · refine s_ret (x := pieceD f x) ?_ st1 k
    have e2 : pieceD f x = false := by
      unfold pieceD
      split
      · simp [isT2] at hb
      · rfl
    rw [e2]
    exact ev_bool
  · obtain ⟨a, b, rfl⟩ := isT2_spec (x := x) (by simpa using hb)
    obtain ⟨_, p2⟩ := pre
    obtain ⟨pa, pb⟩ := p2 a b rfl
    dsimp only
    refine s_twoD (ev_var rfl r) st1 fun u w F2 H2 s2 st2 ru rw_ => ?_
    dsimp only
    refine s_ret (x := pieceD f (.tuple [a, b])) ?_ st2 k
    have r1' := r1.mono s2.ff
    refine ev_andV (a := hasD f a) (b := hasD f b && decide (ptD b ∈ besideOf f (ptD a))) (ev_m1 (f := hasD) (pre := fun f x => isFl K f ∧ okThing x) (ev_var rfl r1') (ev_var rfl ru) ⟨hf, pa⟩ hf) fun ha => ?_
    refine ev_andV (ev_m1 (f := hasD) (pre := fun f x => isFl K f ∧ okThing x) (ev_var rfl r1') (ev_var rfl rw_) ⟨hf, pb⟩ hf) fun hb => ?_
    unfold hasD at ha hb
    rw [Bool.and_eq_true] at ha hb
    have ru' : Rv F2 u (d (ptD a)) := by rw [← place_pt ha.1]; exact ru
    have rw' : Rv F2 w (d (ptD b)) := by rw [← place_pt hb.1]; exact rw_
    refine ev_eq (ev_in (x := ptD b) (xs := besideOf f (ptD a)) ?_ ?_) (decide_eq_decide.mpr Iff.rfl)
    · exact ev_var rfl rw'
    · exact (ev_beside (p := ptD a) (ev_var rfl r1') (ev_var rfl ru') hf hf ha.2).ev
def n_partners_in : List Str := ["floor", "pieces", "partners", "piece", "one", "other"]
theorem sc_partners_in : FnScope n_partners_in ["floor", "pieces"] (defScope s_partners_in) := ⟨rfl, rfl, rfl, by decide +kernel, rfl, by decide +kernel, by decide +kernel⟩
theorem ok_partners_in {P : Program} {w : World} {K : PySem.W.Frag} {mg : Str → Option Value} {base : Heap} (Z : Top hfa hfn K mg) :
    ∃ fd, Fd P w K mg base (L2N.CX P w) 5 "partners_in" (He.ga K "partners_in") fd ["floor", "pieces"] (sp_partners_in K) := by
  obtain ⟨fd, F⟩ := Z.def_ 19 (d := d_partners_in) rfl
  obtain ⟨fd_is_piece, G_is_piece⟩ := ok_is_piece (P := P) (w := w) (base := base) Z
  obtain ⟨fd_Floor_cells, G_Floor_cells⟩ := ok_Floor_m_cells (P := P) (w := w) (base := base) Z
  have x_BadLaying := He.exc_ok (Z.fact 65 (f := .exc "BadLaying") rfl)
  refine ⟨fd, FunD.ok F sc_partners_in (fun vs H Q E h => lenPa h) fun cdv A outer s H vs Q E hr h => ?_, Z.glo 11 (x := "partners_in") rfl, F.kp, FunD.bindsN F (ps := ["floor", "pieces"]) fun _ _ _ _ _ _ us hl => match us, hl with | [_, _], _ => rfl⟩
  have hu0 := hr.units0
  have hu1 := hu_of hr
  have hu64 := hr.units
  have hu65 := hu65_of hr
  refine ⟨_, (pss_cons (ps_if (pt_cmp (pc_op uop_isnot (pe_callTy (crK rTyp K call_type1) (by rfl) (Z.free 89 (x := "type") rfl) (by decide +kernel) (pa_cons (pv 1) pa_nil)) (pe_bltn (by rfl) (Z.free 81 (x := "list") rfl) (by decide +kernel) (v := .ty "list") rfl))) (pss_one (L2N.ps_raise rfl (L2N.takes_of rfl rfl rfl rfl) (L2N.pmk_own PySem.F.excBase_ValueError x_BadLaying.1 (Z.glo 42 (x := "BadLaying") rfl) x_BadLaying.2.1 (raises_own x_BadLaying.2.2.1 x_BadLaying.2.2.2) rfl))) pss_nil)
      (pss_cons (ps_set (i := 2) sc_partners_in.nd rfl (Or.inl rfl) pe_dnewU)
      (pss_cons (ps_for (passes_of rfl) rfl (pi_anyK K (pv 1)) (pg_name (i := 3) sc_partners_in.nd rfl (Or.inl rfl)) (pss_cons (ps_if (pt_not (pt_trK K (pe_fd G_is_piece (hr.mono (by decide)) pass0 (pa_cons (pv 0) (pa_cons (pv 3) pa_nil))))) (pss_one (L2N.ps_raise rfl (L2N.takes_of rfl rfl rfl rfl) (L2N.pmk_own PySem.F.excBase_ValueError x_BadLaying.1 (Z.glo 42 (x := "BadLaying") rfl) x_BadLaying.2.1 (raises_own x_BadLaying.2.2.1 x_BadLaying.2.2.2) rfl))) pss_nil)
      (pss_cons (ps_asg (pv 3) (pg_tupK K (n := 2) rfl (pgs_cons (pg_name (i := 4) sc_partners_in.nd rfl (Or.inl rfl)) (pgs_cons (pg_name (i := 5) sc_partners_in.nd rfl (Or.inl rfl)) pgs_nil))))
      (pss_cons (ps_if (PW.pt (pw_or (pt_cmp (pc_inK K hu65 (pv 4) (pv 2))) (pw_or1 (pt_cmp (pc_inK K hu65 (pv 5) (pv 2)))))) (pss_one (L2N.ps_raise rfl (L2N.takes_of rfl rfl rfl rfl) (L2N.pmk_own PySem.F.excBase_ValueError x_BadLaying.1 (Z.glo 42 (x := "BadLaying") rfl) x_BadLaying.2.1 (raises_own x_BadLaying.2.2.1 x_BadLaying.2.2.2) rfl))) pss_nil)
      (pss_cons (ps_dput hu1 (pv 2) (pv 4) (pv 5) rfl)
      (pss_one (ps_dput hu1 (pv 2) (pv 5) (pv 4) rfl)))))))
      (pss_cons (ps_if (pt_cmp (pc_op (opK rLtU K (uop_lt hu0)) (pe_callB (crK rLenU K ucall_len) (by rfl) (Z.free 80 (x := "len") rfl) (by decide +kernel) (pa_cons (pv 2) pa_nil)) (pe_callB (crK rLenU K ucall_len) (by rfl) (Z.free 80 (x := "len") rfl) (by decide +kernel) (pa_cons (pe_md0 (pv 0) G_Floor_cells (hr.mono (by decide)) pass0) pa_nil)))) (pss_one (L2N.ps_raise rfl (L2N.takes_of rfl rfl rfl rfl) (L2N.pmk_own PySem.F.excBase_ValueError x_BadLaying.1 (Z.glo 42 (x := "BadLaying") rfl) x_BadLaying.2.1 (raises_own x_BadLaying.2.2.1 x_BadLaying.2.2.2) rfl))) pss_nil)
      (pss_one (ps_ret (pv 2))))))), ?_⟩
  clear hu0 hu1 hu64 hu65 hr F
  refine run_px (K := K) 4 2 h (fun es r ⟨f, x, e, _⟩ => by rw [e]; rfl) rfl fun es r pre => ?_
  obtain ⟨f, x, rfl, fl, ok, rfl⟩ := pre
  have hfl := fl.fl
  show Run _ _ _ [.sh (d f), .sh x, .no, .no, .no, .no] _ _
  by_cases e : tyName x = "list"
  · obtain ⟨xs, rfl⟩ : ∃ xs, x = .list xs := by cases x <;> simp_all [tyName]
    obtain ⟨hl, each⟩ := ok.each xs rfl
    refine r_seq (r_if (b := false) (et_of' (ex_eq (ex_typeIs (x := .list xs) (ex_var rfl) ok.pl) rfl)) (fun hb => nomatch hb) fun _ => r_next ?_)
    refine r_seq (r_ownD (i := 2) (B := (⟨[]⟩ : Dc Pt)) exN_dnew fun p => ?_)
    show Run _ _ _ [.sh (d f), .sh (.list xs), .ow p (d (⟨[]⟩ : Dc Pt)), .no, .no, .no] _ _
    have hm : PyData.list xs = d xs := by show _ = PyData.list (xs.map fun x => x); rw [List.map_id']
    have bad : ∀ {D : Dc Pt} {i : Nat} {y : PyData}, xs[i]? = some y → partGo f xs ⟨[]⟩ = partGo f (xs.drop i) D → partStep f D y = none → partsR f (.list xs) = .error "BadLaying" := fun {D i y} hy g z => by
      have il := (List.getElem?_eq_some_iff.mp hy).1
      have ed : xs.drop i = y :: xs.drop (i + 1) := by rw [List.drop_eq_getElem_cons il]; congr 1; exact (List.getElem?_eq_some_iff.mp hy).2
      have e0 : partGo f xs ⟨[]⟩ = none := by
        rw [g, ed]
        unfold partGo
        rw [z]
      unfold partsR partsD
      simp only [e0]
    refine r_seq (r_forG (xs := xs) (τ := Dc Pt) (fun D => [.sh (d f), .sh (.list xs), .ow p (d D), .no, .no, .no]) (fun i D => Laid2 f D ∧ partGo f xs ⟨[]⟩ = partGo f (xs.drop i) D) ⟨[]⟩ (ei_list' (ex_eq (ex_var rfl) hm)) (by wtm_at "tf_less") ⟨⟨half_none _, List.nodup_nil⟩, rfl⟩ (fun i y D hy hI => ?_) fun D hI => ?_)
    · obtain ⟨L, g⟩ := hI
      have il := (List.getElem?_eq_some_iff.mp hy).1
      have ed : xs.drop i = y :: xs.drop (i + 1) := by rw [List.drop_eq_getElem_cons il]; congr 1; exact (List.getElem?_eq_some_iff.mp hy).2
      have oky := each y (List.mem_of_getElem? hy)
      have ll := keys_len L.nk (fun q x hq => L.half.mem q x hq) fl.sm
      refine ⟨_, bd_name, ?_⟩
      show Run _ _ _ [.sh (d f), .sh (.list xs), .ow p (d D), .sh y, .no, .no] _ _
      refine r_seq (r_if (b := !pieceD f y) (et_not' (et_tr' (ex_call2 (f := pieceD) (pre := fun f x => isFl K f ∧ okPiece x) (x := f) (y := y) (ex_var rfl) (ex_var rfl) ⟨hfl, oky⟩))) (fun hb => r_raise ?_) fun hb => r_next ?_)
      · refine bad hy g ?_
        unfold partStep
        rw [if_neg (fun z => by rw [z] at hb; cases hb)]
      have hp : pieceD f y = true := by simpa using hb
      have ey := (piece_of hp).1
      refine r_seq (r_asgT (e := d (oneD y, twoD y)) (es_hid (ex_eq (ex_var rfl) ey)) (bd_tup (bds_cons bd_name (bds_cons bd_name bds_nil))) ?_)
      show Run _ _ _ [.sh (d f), .sh (.list xs), .ow p (d D), .sh y, .sh (d (oneD y)), .sh (d (twoD y))] _ _
      refine r_seq (r_if (b := (D.get (oneD y)).isSome || (D.get (twoD y)).isSome) (et_or' (et_of' (ex_inD (D := D) (x := oneD y) (ex_var rfl) (ex_var rfl))) fun _ => et_of' (ex_inD (D := D) (x := twoD y) (ex_var rfl) (ex_var rfl))) (fun hb2 => r_raise ?_) fun hb2 => r_next ?_)
      · refine bad hy g ?_
        unfold partStep
        rw [if_pos hp, if_pos (by simpa using hb2)]
      have es : partStep f D y = some (putPair D (oneD y) (twoD y)) := by
        unfold partStep
        rw [if_pos hp, if_neg (fun z => by
          rcases z with z | z
          · rw [z] at hb2; cases hb2
          · rw [z, Bool.or_true] at hb2; cases hb2)]
      have pl := Dc.put_len D (oneD y) (twoD y)
      refine r_seq (r_dput (B := D) (q := oneD y) (x := twoD y) (i := 2) (p := p) rfl (es_hid (ex_var rfl)) (es_hid (ex_var rfl)) (by omega) ?_)
      refine r_dput (B := D.put (oneD y) (twoD y)) (q := twoD y) (x := oneD y) (i := 2) (p := p) rfl (es_hid (ex_var rfl)) (es_hid (ex_var rfl)) (by omega) ?_
      refine ⟨putPair D (oneD y) (twoD y), ⟨part_step fl L es, ?_⟩, by wtm_at "tf_less"⟩
      rw [g, ed]
      show (match partStep f D y with | none => none | some D' => partGo f (xs.drop (i + 1)) D') = _
      rw [es]
    · obtain ⟨L, g⟩ := hI
      have e0 : partGo f xs ⟨[]⟩ = some D := by
        rw [g, List.drop_length]
        rfl
      refine r_seq (r_if (b := decide ((D.l.length : Int) < f.cells.length)) (et_of' (ex_lt (ex_lenD (D := D) (ex_var rfl)) (ex_len (xs := f.cells) (exN_m0 (f := Fl.cells) (pre := isFl K) (ex_var rfl) hfl hfl (by decide)).ex))) (fun hb => r_raise ?_) fun hb => r_next (r_retO (i := 2) rfl ⟨?_, fun _ => rfl⟩))
      · have hb' := of_decide_eq_true hb
        show partsR f (.list xs) = .error "BadLaying"
        unfold partsR partsD
        simp only [e0]
        rw [if_pos (by omega)]
      · have hb' := of_decide_eq_false hb
        unfold partsR partsD
        simp only [e0]
        rw [if_neg (by omega)]
  · refine r_seq (r_if (b := true) (et_of' (ex_eq (ex_typeIs (x := x) (ex_var rfl) ok.pl) (by simp [e]))) (fun _ => r_raise ?_) fun hb => nomatch hb)
    show partsR f x = .error "BadLaying"
    unfold partsR
    split
    · simp [tyName] at e
    · rfl
def n_laying_by : List Str := ["floor", "partners", "laying", "covered", "cell"]
theorem sc_laying_by : FnScope n_laying_by ["floor", "partners"] (defScope s_laying_by) := ⟨rfl, rfl, rfl, by decide +kernel, rfl, by decide +kernel, by decide +kernel⟩
theorem ok_laying_by {P : Program} {w : World} {K : PySem.W.Frag} {mg : Str → Option Value} {base : Heap} (Z : Top hfa hfn K mg) :
    ∃ fd, Fd P w K mg base CX0 2 "laying_by" (He.ga K "laying_by") fd ["floor", "partners"] (sp_laying_by K) := by
  obtain ⟨fd, F⟩ := Z.def_ 20 (d := d_laying_by) rfl
  obtain ⟨fd_Floor_cells, G_Floor_cells⟩ := ok_Floor_m_cells (P := P) (w := w) (base := base) Z
  refine ⟨fd, FunD.ok F sc_laying_by (fun vs H Q E h => lenN2 h) fun cdv A outer s H vs Q E hr h => ?_, Z.glo 12 (x := "laying_by") rfl, F.kp, FunD.bindsN F (ps := ["floor", "partners"]) fun _ _ _ _ _ _ us hl => match us, hl with | [_, _], _ => rfl⟩
  have hu0 := hr.units0
  have hu1 := hu_of hr
  have hu64 := hr.units
  have hu65 := hu65_of hr
  refine ⟨_, PSs.nox (pss_cons (ps_set (i := 2) sc_laying_by.nd rfl (Or.inl rfl) (pe_lst pa_nil))
      (pss_cons (ps_set (i := 3) sc_laying_by.nd rfl (Or.inl rfl) pe_dnewU)
      (pss_cons (ps_for PassesOwn.never rfl (pi_anyK K (pe_md0 (pv 0) G_Floor_cells (hr.mono (by decide)) pass0)) (pg_name (i := 4) sc_laying_by.nd rfl (Or.inl rfl)) (pss_one (ps_if (pt_cmp (pc_notinK K hu65 (pv 4) (pv 3))) (pss_cons (ps_expr (pe_bmK K PySem.F.plainAttrs_list PySem.F.slot_list_append PySem.F.type_list_append mt_append (pv 2) (pa_cons (pe_tup (pa_cons (pv 4) (pa_cons (pe_ixK K hu1 (pv 1) (pv 4)) pa_nil))) pa_nil)))
      (pss_one (ps_dput hu1 (pv 3) (pe_ixK K hu1 (pv 1) (pv 4)) pe_bl rfl))) pss_nil)))
      (pss_one (ps_ret (pv 2)))))), ?_⟩
  clear hu0 hu1 hu64 hu65 hr F
  refine run_puN2 (K := K) 3 h rfl fun f D pre => ?_
  obtain ⟨fl, F⟩ := pre
  have hfl := fl.fl
  have sm := fl.sm
  show Run _ _ _ [.sh (d f), .sh (d D), .no, .no, .no] _ _
  refine r_seq (r_ownL (i := 2) (exN_nil (Pt × Pt)) fun p2 => ?_)
  refine r_seq (r_ownD (i := 3) (B := (⟨[]⟩ : Dc Bool)) exN_dnew fun p3 => ?_)
  show Run _ _ _ [.sh (d f), .sh (d D), .ow p2 (d ([] : List (Pt × Pt))), .ow p3 (d (⟨[]⟩ : Dc Bool)), .no] _ _
  refine r_seq (r_forG (xs := f.cells) (τ := Dc Bool × Nat) (fun s => [.sh (d f), .sh (d D), .ow p2 (d (layF (f.cells.take s.2) D)), .ow p3 (d s.1), .no]) (fun i s => s.2 = i ∧ s.1.l.length ≤ i ∧ ∀ q, (s.1.get q).isSome = true ↔ ∃ c ∈ f.cells.take i, ltB c (oth D c) = true ∧ oth D c = q) (⟨[]⟩, 0) (ei_list' (exN_m0 (f := Fl.cells) (pre := isFl K) (ex_var rfl) hfl hfl (by decide)).ex) (by wtm_at "tf_less") ⟨rfl, Nat.le_refl _, fun q => ⟨fun z => (nomatch z), fun ⟨c, hc, _⟩ => by simp at hc⟩⟩ (fun i cell s hx hI => ?_) fun s hI => ?_)
  · obtain ⟨C, i'⟩ := s
    obtain ⟨e1, e2, e3⟩ := hI
    have e1' : i' = i := e1
    subst e1'
    have e2' : C.l.length ≤ i' := e2
    have e3' : ∀ q, (C.get q).isSome = true ↔ ∃ c ∈ f.cells.take i', ltB c (oth D c) = true ∧ oth D c = q := e3
    have il := (List.getElem?_eq_some_iff.mp hx).1
    have hc := List.mem_of_getElem? hx
    have lt := lay_turn F fl.so hx
    have ln := lay_next (D := D) hx
    have ll := lay_len (f.cells.take i') D
    rw [List.length_take] at ll
    have hD := F.all cell hc
    refine ⟨_, bd_name, ?_⟩
    show Run _ _ _ [.sh (d f), .sh (d D), .ow p2 (d (layF (f.cells.take i') D)), .ow p3 (d C), .sh (d cell)] _ _
    refine r_if (et_of' (ex_notinD (D := C) (x := cell) (ex_var rfl) (ex_var rfl))) (fun hb => ?_) fun hb => r_next ?_
    · have n : ltB cell (oth D cell) = true := by
        cases z : ltB cell (oth D cell) with
        | true => rfl
        | false =>
          rw [(e3' cell).mpr (lt.mpr z)] at hb
          cases hb
      rw [if_pos n] at ln
      refine r_seq (r_app (i := 2) (p := p2) (xs := layF (f.cells.take i') D) (x := (cell, oth D cell)) rfl (es_hid (ex_pair (ex_var rfl) (ex_dGetG (D := D) (k := cell) (ex_var rfl) (ex_var rfl) inferInstance hD))) (by omega) ?_)
      refine r_dput (B := C) (q := oth D cell) (x := true) (i := 3) (p := p3) rfl (es_hid ex_bool) (es_hid (ex_dGetG (D := D) (k := cell) (ex_var rfl) (ex_var rfl) inferInstance hD)) (by omega) ?_
      refine ⟨(C.put (oth D cell) true, i' + 1), ⟨rfl, Nat.le_trans (Dc.put_len C _ _) (Nat.succ_le_succ e2'), fun q => ?_⟩, ?_⟩
      · show ((C.put (oth D cell) true).get q).isSome = true ↔ _
        rw [Dc.get_put, take_snoc hx]
        by_cases z : q = oth D cell
        · rw [if_pos z]
          exact ⟨fun _ => ⟨cell, by simp, n, z.symm⟩, fun _ => rfl⟩
        · rw [if_neg z, e3' q]
          constructor
          · rintro ⟨c, a, b⟩
            exact ⟨c, List.mem_append_left _ a, b⟩
          · rintro ⟨c, a, b1, b2⟩
            rcases List.mem_append.mp a with y | y
            · exact ⟨c, y, b1, b2⟩
            · rw [List.mem_singleton.mp y] at b2
              exact absurd b2.symm z
      · show LessL _ [.sh (d f), .sh (d D), .ow p2 (d (layF (f.cells.take (i' + 1)) D)), .ow p3 (d (C.put (oth D cell) true)), .no]
        rw [ln]
        wtm_at "tf_less"
    · have y : (C.get cell).isSome = true := by
        cases z : (C.get cell).isSome with
        | true => rfl
        | false => rw [z] at hb; cases hb
      have n := lt.mp ((e3' cell).mp y)
      rw [if_neg (by rw [n]; decide), List.append_nil] at ln
      refine ⟨(C, i' + 1), ⟨rfl, Nat.le_succ_of_le e2', fun q => ?_⟩, ?_⟩
      · show (C.get q).isSome = true ↔ _
        rw [e3' q, take_snoc hx]
        constructor
        · rintro ⟨c, a, b⟩
          exact ⟨c, List.mem_append_left _ a, b⟩
        · rintro ⟨c, a, b1, b2⟩
          rcases List.mem_append.mp a with z | z
          · exact ⟨c, z, b1, b2⟩
          · rw [List.mem_singleton.mp z, n] at b1
            cases b1
      · show LessL _ [.sh (d f), .sh (d D), .ow p2 (d (layF (f.cells.take (i' + 1)) D)), .ow p3 (d C), .no]
        rw [ln]
        wtm_at "tf_less"
  · obtain ⟨C, i'⟩ := s
    obtain ⟨e1, e2, e3⟩ := hI
    have e1' : i' = f.cells.length := e1
    subst e1'
    have e : f.cells.take f.cells.length = f.cells := List.take_length
    refine r_retO (i := 2) rfl ⟨?_, fun _ => rfl⟩
    show Except.ok (d (layF f.cells D)) = Except.ok (d (layF (f.cells.take f.cells.length) D))
    rw [e]
def n_turns_by : List Str := ["floor", "partners", "found", "corner", "four", "cell"]
theorem sc_turns_by : FnScope n_turns_by ["floor", "partners"] (defScope s_turns_by) := ⟨rfl, rfl, rfl, by decide +kernel, rfl, by decide +kernel, by decide +kernel⟩
theorem ok_turns_by {P : Program} {w : World} {K : PySem.W.Frag} {mg : Str → Option Value} {base : Heap} (Z : Top hfa hfn K mg) (TB : LamX.TabB base mg (He.cT K ("in_order", none)).1 (He.cT K ("in_order", none)).2) :
    ∃ fd, Fd P w K mg base CX0 4 "turns_by" (He.ga K "turns_by") fd ["floor", "partners"] (sp_turns_by K) := by
  obtain ⟨fd, F⟩ := Z.def_ 21 (d := d_turns_by) rfl
  obtain ⟨fd_places_round, G_places_round⟩ := ok_places_round (P := P) (w := w) (base := base) Z
  obtain ⟨fd_Floor_inner, G_Floor_inner⟩ := ok_Floor_m_inner (P := P) (w := w) (base := base) Z TB
  refine ⟨fd, FunD.ok F sc_turns_by (fun vs H Q E h => lenN2 h) fun cdv A outer s H vs Q E hr h => ?_, Z.glo 13 (x := "turns_by") rfl, F.kp, FunD.bindsN F (ps := ["floor", "partners"]) fun _ _ _ _ _ _ us hl => match us, hl with | [_, _], _ => rfl⟩
  have hu0 := hr.units0
  have hu1 := hu_of hr
  have hu64 := hr.units
  have hu65 := hu65_of hr
  refine ⟨_, PSs.nox (pss_cons (ps_set (i := 2) sc_turns_by.nd rfl (Or.inl rfl) (pe_lst pa_nil))
      (pss_cons (ps_for PassesOwn.never rfl (pi_anyK K (pe_md0 (pv 0) G_Floor_inner (hr.mono (by decide)) pass0)) (pg_name (i := 3) sc_turns_by.nd rfl (Or.inl rfl)) (pss_cons (ps_set (i := 4) sc_turns_by.nd rfl (Or.inr rfl) (pe_fd G_places_round (hr.mono (by decide)) pass0 (pa_cons (pv 3) pa_nil)))
      (pss_one (ps_if (pt_trK K (pe_callB (crK rAll K (cr_all rfl)) (by rfl) (Z.free 75 (x := "all") rfl) (by decide +kernel) (pa_cons (pe_lc (own := [("cell", 5)]) rfl sc_turns_by.nd (pi_anyK K (pv 4)) (blkOk_by (own := [("cell", 5)]) (N := n_turns_by) (sc := defScope s_turns_by) (by decide +kernel)) (fun _ _ _ _ _ => by exact (pg_name (i := 5) sc_turns_by.nd rfl (Or.inl rfl))) (fun _ _ _ _ _ => by exact pts_nil) (fun _ _ _ _ _ => by exact (pe_cmp (pc_inK K hu65 (pe_ixK K hu1 (pv 1) (pv 5)) (pv 4))))) pa_nil))) (pss_one (ps_expr (pe_bmK K PySem.F.plainAttrs_list PySem.F.slot_list_append PySem.F.type_list_append mt_append (pv 2) (pa_cons (pv 3) pa_nil)))) pss_nil))))
      (pss_one (ps_ret (pv 2))))), ?_⟩
  clear hu0 hu1 hu64 hu65 hr F
  refine run_puN2 (K := K) 4 h rfl fun f D pre => ?_
  obtain ⟨fl, F⟩ := pre
  have hfl := fl.fl
  have sm := fl.sm
  have big : okFl K f := ⟨hfl, by omega⟩
  have il := inner_len fl
  show Run _ _ _ [.sh (d f), .sh (d D), .no, .no, .no, .no] _ _
  refine r_seq (r_ownL (i := 2) (exN_nil Pt) fun p => ?_)
  show Run _ _ _ [.sh (d f), .sh (d D), .ow p (d ([] : List Pt)), .no, .no, .no] _ _
  refine r_seq (r_forF (xs := innerOf f) (fun a => [.sh (d f), .sh (d D), .ow p (d a), .no, .no, .no]) (fun a c => if turnQ D c = true then a ++ [c] else a) ([] : List Pt) (fun i a => a.length ≤ i) (ei_list' (exN_m0 (f := innerOf) (pre := okFl K) (ex_var rfl) big hfl (by decide)).ex) (by wtm_at "tf_less") (Nat.le_refl _) (fun i c a hc _ ha => ?_) fun _ => ?_)
  · have hi := (List.getElem?_eq_some_iff.mp hc).1
    have ic := (mem_innerOf fl).mp (List.mem_of_getElem? hc)
    have ha' : a.length ≤ i := ha
    have in4 : ∀ q ∈ round4 c, (D.get q).isSome = true := fun q hq => F.all q (by
      unfold round4 at hq
      simp only [List.mem_cons, List.not_mem_nil, or_false] at hq
      obtain ⟨i1, i2, i3, i4⟩ := ic
      rcases hq with rfl | rfl | rfl | rfl <;> assumption)
    refine ⟨?_, _, bd_name, ?_⟩
    · show (if turnQ D c = true then a ++ [c] else a).length ≤ i + 1
      split
      · rw [List.length_append, List.length_singleton]; omega
      · omega
    show Run _ _ _ [.sh (d f), .sh (d D), .ow p (d a), .sh (d c), .no, .no] _ _
    refine r_seq (r_asg (e := d (round4 c)) (es_hid (ex_call1 (f := round4) (pre := fun _ => True) (x := c) (ex_var rfl) trivial)) ?_)
    show Run _ _ _ [.sh (d f), .sh (d D), .ow p (d a), .sh (d c), .sh (d (round4 c)), .no] _ _
    refine r_if (b := turnQ D c) (et_tr' (ex_all (bs := (round4 c).map fun q => decide (oth D q ∈ round4 c)) (exN_lc1 (xs := round4 c) (f := fun q => decide (oth D q ∈ round4 c)) (ei_list' (ex_var rfl)) (fun _ _ => bd_name) (fun _ _ => rfl) (fun q hq => ex_eq (ex_in (x := oth D q) (xs := round4 c) (ex_eq (ex_dGetG (D := D) (k := q) (ex_var rfl) (ex_var rfl) inferInstance (in4 q hq)) ?_) (ex_var rfl)) rfl) (Nat.le_of_ble_eq_true rfl)).ex)) (fun hb => ?_) fun hb => r_next ?_
    · rw [get_oth (in4 q hq)]
      rfl
    · refine r_app (i := 2) (p := p) (xs := a) (x := c) rfl (es_hid (ex_var rfl)) (by omega) ?_
      show LessL _ [.sh (d f), .sh (d D), .ow p (d (if turnQ D c = true then a ++ [c] else a)), .no, .no, .no]
      rw [if_pos hb]
      wtm_at "tf_less"
    · show LessL _ [.sh (d f), .sh (d D), .ow p (d (if turnQ D c = true then a ++ [c] else a)), .no, .no, .no]
      rw [if_neg (by rw [hb]; decide)]
      wtm_at "tf_less"
  · refine r_retO (i := 2) rfl ⟨?_, fun _ => rfl⟩
    rw [foldl_pick]
    rfl
def n_turns_of : List Str := ["floor", "pieces"]
theorem sc_turns_of : FnScope n_turns_of ["floor", "pieces"] (defScope s_turns_of) := ⟨rfl, rfl, rfl, by decide +kernel, rfl, by decide +kernel, by decide +kernel⟩
theorem ok_turns_of {P : Program} {w : World} {K : PySem.W.Frag} {mg : Str → Option Value} {base : Heap} (Z : Top hfa hfn K mg) (TB : LamX.TabB base mg (He.cT K ("in_order", none)).1 (He.cT K ("in_order", none)).2) :
    ∃ fd, Fd P w K mg base (L2N.CX P w) 6 "turns_of" (He.ga K "turns_of") fd ["floor", "pieces"] (sp_turns_of K) := by
  obtain ⟨fd, F⟩ := Z.def_ 22 (d := d_turns_of) rfl
  obtain ⟨fd_turns_by, G_turns_by⟩ := ok_turns_by (P := P) (w := w) (base := base) Z TB
  obtain ⟨fd_partners_in, G_partners_in⟩ := ok_partners_in (P := P) (w := w) (base := base) Z
  refine ⟨fd, FunD.ok F sc_turns_of (fun vs H Q E h => lenTn h) fun cdv A outer s H vs Q E hr h => ?_, Z.glo 14 (x := "turns_of") rfl, F.kp, FunD.bindsN F (ps := ["floor", "pieces"]) fun _ _ _ _ _ _ us hl => match us, hl with | [_, _], _ => rfl⟩
  have hu0 := hr.units0
  have hu1 := hu_of hr
  have hu64 := hr.units
  have hu65 := hu65_of hr
  refine ⟨_, (pss_one (ps_ret (pe_fd G_turns_by (hr.mono (by decide)) pass0 (pa_cons (pv 0) (pa_cons (pe_fd G_partners_in (hr.mono (by decide)) (passW (L2N.takes_of rfl rfl rfl rfl)) (pa_cons (pv 0) (pa_cons (pv 1) pa_nil))) pa_nil))))), ?_⟩
  clear hu0 hu1 hu64 hu65 hr F
  refine run_px (K := K) 0 2 h (fun es r ⟨f, x, e, _⟩ => by rw [e]; rfl) rfl fun es r pre => ?_
  obtain ⟨f, x, rfl, fl, ok, rfl⟩ := pre
  show Run _ _ _ [.sh (d f), .sh x] _ _
  unfold turnsR
  cases hp : partsX f x with
  | some D => exact r_ret (es_hidN (exN_call2 (f := turnsB) (pre := fun f D => FlG K f ∧ Full f.cells D) (x := f) (y := D) (ex_var rfl) (ex_pxW (P := PartsP K) (ea_cons' (ex_var rfl) (ea_cons' (ex_var rfl) ea_nil')) ⟨f, _, rfl, fl, ok, (partsX_ok hp).symm⟩) ⟨fl, partsX_full fl hp⟩)) ⟨rfl, fun _ => rfl⟩
  | none => exact r_retX (er_args (er_tail (ex_var (e := d f) rfl) (er_head (er_pxW (P := PartsP K) (ea_cons' (ex_var rfl) (ea_cons' (ex_var rfl) ea_nil')) ⟨f, _, rfl, fl, ok, (partsX_bad hp).symm⟩ fun c H z σ _ => z)))) rfl
def n_pieces_after : List Str := ["partners", "corner", "upper_left", "upper_right", "lower_left", "lower_right"]
theorem sc_pieces_after : FnScope n_pieces_after ["partners", "corner"] (defScope s_pieces_after) := ⟨rfl, rfl, rfl, by decide +kernel, rfl, by decide +kernel, by decide +kernel⟩
theorem ok_pieces_after {P : Program} {w : World} {K : PySem.W.Frag} {mg : Str → Option Value} {base : Heap} (Z : Top hfa hfn K mg) :
    ∃ fd, Fd P w K mg base CX0 2 "pieces_after" (He.ga K "pieces_after") fd ["partners", "corner"] (sp_pieces_after K) := by
  obtain ⟨fd, F⟩ := Z.def_ 23 (d := d_pieces_after) rfl
  obtain ⟨fd_places_round, G_places_round⟩ := ok_places_round (P := P) (w := w) (base := base) Z
  refine ⟨fd, FunD.ok F sc_pieces_after (fun vs H Q E h => lenN2 h) fun cdv A outer s H vs Q E hr h => ?_, Z.glo 15 (x := "pieces_after") rfl, F.kp, FunD.bindsN F (ps := ["partners", "corner"]) fun _ _ _ _ _ _ us hl => match us, hl with | [_, _], _ => rfl⟩
  have hu0 := hr.units0
  have hu1 := hu_of hr
  have hu64 := hr.units
  have hu65 := hu65_of hr
  refine ⟨_, PSs.nox (pss_cons (ps_asg (pe_fd G_places_round (hr.mono (by decide)) pass0 (pa_cons (pv 1) pa_nil)) (pg_lstK K (n := 4) rfl (pgs_cons (pg_name (i := 2) sc_pieces_after.nd rfl (Or.inl rfl)) (pgs_cons (pg_name (i := 3) sc_pieces_after.nd rfl (Or.inl rfl)) (pgs_cons (pg_name (i := 4) sc_pieces_after.nd rfl (Or.inl rfl)) (pgs_cons (pg_name (i := 5) sc_pieces_after.nd rfl (Or.inl rfl)) pgs_nil))))))
      (pss_cons (ps_if (pt_cmp (pc_op (opK rEqD K (op_eqD hu64)) (pe_ixK K hu1 (pv 0) (pv 2)) (pv 3))) (pss_one (ps_ret (pe_lst (pa_cons (pe_tup (pa_cons (pv 2) (pa_cons (pv 4) pa_nil))) (pa_cons (pe_tup (pa_cons (pv 3) (pa_cons (pv 5) pa_nil))) pa_nil))))) pss_nil)
      (pss_one (ps_ret (pe_lst (pa_cons (pe_tup (pa_cons (pv 2) (pa_cons (pv 3) pa_nil))) (pa_cons (pe_tup (pa_cons (pv 4) (pa_cons (pv 5) pa_nil))) pa_nil))))))), ?_⟩
  clear hu0 hu1 hu64 hu65 hr F
  refine run_puN2 (K := K) 4 h rfl fun D c pre => ?_
  obtain ⟨cx, cy⟩ := c
  have g := get_oth pre
  show Run _ _ _ [.sh (d D), .sh (d (cx, cy)), .no, .no, .no, .no] _ _
  refine r_seq (r_asgT (e := .list [d (cx - 1, cy - 1), d (cx, cy - 1), d (cx - 1, cy), d (cx, cy)]) (es_hid (ex_call1 (f := round4) (pre := fun _ => True) (x := (cx, cy)) (ex_var rfl) trivial)) (bd_lst (bds_cons bd_name (bds_cons bd_name (bds_cons bd_name (bds_cons bd_name bds_nil))))) ?_)
  show Run _ _ _ [.sh (d D), .sh (d (cx, cy)), .sh (d (cx - 1, cy - 1)), .sh (d (cx, cy - 1)), .sh (d (cx - 1, cy)), .sh (d (cx, cy))] _ _
  unfold afterB
  refine r_seq (r_if (b := decide (oth D (cx - 1, cy - 1) = (cx, cy - 1))) (et_of' (ex_eqP (x := oth D (cx - 1, cy - 1)) (y := (cx, cy - 1)) (ex_eq (ex_dGetG (D := D) (k := (cx - 1, cy - 1)) (ex_var rfl) (ex_var rfl) inferInstance pre) (by rw [g]; rfl)) (ex_var rfl))) (fun hb => ?_) fun hb => r_next ?_)
  · rw [if_pos (of_decide_eq_true hb)]
    exact r_ret (es_hidN (exN_lst (exs_cons (x := (((cx - 1, cy - 1), (cx - 1, cy)) : Pc)) (ex_pair (ex_var rfl) (ex_var rfl)) (exs_cons (x := (((cx, cy - 1), (cx, cy)) : Pc)) (ex_pair (ex_var rfl) (ex_var rfl)) exs_nil)) (Nat.le_of_ble_eq_true rfl))) ⟨rfl, fun _ => rfl⟩
  · rw [if_neg (of_decide_eq_false hb)]
    exact r_ret (es_hidN (exN_lst (exs_cons (x := (((cx - 1, cy - 1), (cx, cy - 1)) : Pc)) (ex_pair (ex_var rfl) (ex_var rfl)) (exs_cons (x := (((cx - 1, cy), (cx, cy)) : Pc)) (ex_pair (ex_var rfl) (ex_var rfl)) exs_nil)) (Nat.le_of_ble_eq_true rfl))) ⟨rfl, fun _ => rfl⟩
def n_turned_at : List Str := ["floor", "pieces", "corner", "partners", "turned_pieces", "one", "other"]
theorem sc_turned_at : FnScope n_turned_at ["floor", "pieces", "corner"] (defScope s_turned_at) := ⟨rfl, rfl, rfl, by decide +kernel, rfl, by decide +kernel, by decide +kernel⟩
theorem ok_turned_at {P : Program} {w : World} {K : PySem.W.Frag} {mg : Str → Option Value} {base : Heap} (Z : Top hfa hfn K mg) (TB : LamX.TabB base mg (He.cT K ("in_order", none)).1 (He.cT K ("in_order", none)).2) :
    ∃ fd, Fd P w K mg base (L2N.CX P w) 6 "turned_at" (He.ga K "turned_at") fd ["floor", "pieces", "corner"] (sp_turned_at K) := by
  obtain ⟨fd, F⟩ := Z.def_ 24 (d := d_turned_at) rfl
  obtain ⟨fd_laying_by, G_laying_by⟩ := ok_laying_by (P := P) (w := w) (base := base) Z
  obtain ⟨fd_pieces_after, G_pieces_after⟩ := ok_pieces_after (P := P) (w := w) (base := base) Z
  obtain ⟨fd_turns_by, G_turns_by⟩ := ok_turns_by (P := P) (w := w) (base := base) Z TB
  obtain ⟨fd_is_place, G_is_place⟩ := ok_is_place (P := P) (w := w) (base := base) Z
  obtain ⟨fd_partners_in, G_partners_in⟩ := ok_partners_in (P := P) (w := w) (base := base) Z
  have x_NoTurn := He.exc_ok (Z.fact 68 (f := .exc "NoTurn") rfl)
  refine ⟨fd, FunD.ok F sc_turned_at (fun vs H Q E h => lenTa h) fun cdv A outer s H vs Q E hr h => ?_, Z.glo 16 (x := "turned_at") rfl, F.kp, FunD.bindsN F (ps := ["floor", "pieces", "corner"]) fun _ _ _ _ _ _ us hl => match us, hl with | [_, _, _], _ => rfl⟩
  have hu0 := hr.units0
  have hu1 := hu_of hr
  have hu64 := hr.units
  have hu65 := hu65_of hr
  refine ⟨_, (pss_cons (ps_set (i := 3) sc_turned_at.nd rfl (Or.inl rfl) (pe_fd G_partners_in (hr.mono (by decide)) (passW (L2N.takes_of rfl rfl rfl rfl)) (pa_cons (pv 0) (pa_cons (pv 1) pa_nil))))
      (pss_cons (ps_if (PW.pt (pw_or (pt_not (pt_trK K (pe_fd G_is_place (hr.mono (by decide)) pass0 (pa_cons (pv 2) pa_nil)))) (pw_or1 (pt_cmp (pc_notinK K hu65 (pv 2) (pe_fd G_turns_by (hr.mono (by decide)) pass0 (pa_cons (pv 0) (pa_cons (pv 3) pa_nil)))))))) (pss_one (L2N.ps_raise rfl (L2N.takes_of rfl rfl rfl rfl) (L2N.pmk_own PySem.F.excBase_ValueError x_NoTurn.1 (Z.glo 45 (x := "NoTurn") rfl) x_NoTurn.2.1 (raises_own x_NoTurn.2.2.1 x_NoTurn.2.2.2) rfl))) pss_nil)
      (pss_cons (ps_set (i := 4) sc_turned_at.nd rfl (Or.inl rfl) (pe_fd G_pieces_after (hr.mono (by decide)) pass0 (pa_cons (pv 3) (pa_cons (pv 2) pa_nil))))
      (pss_cons (ps_for (passes_of rfl) rfl (pi_anyK K (pv 4)) (pg_tupK K (n := 2) rfl (pgs_cons (pg_name (i := 5) sc_turned_at.nd rfl (Or.inl rfl)) (pgs_cons (pg_name (i := 6) sc_turned_at.nd rfl (Or.inl rfl)) pgs_nil))) (pss_cons (ps_dput hu1 (pv 3) (pv 5) (pv 6) rfl)
      (pss_one (ps_dput hu1 (pv 3) (pv 6) (pv 5) rfl))))
      (pss_one (ps_ret (pe_fd G_laying_by (hr.mono (by decide)) pass0 (pa_cons (pv 0) (pa_cons (pv 3) pa_nil))))))))), ?_⟩
  clear hu0 hu1 hu64 hu65 hr F
  refine run_px (K := K) 4 3 h (fun es r ⟨f, x, y, e, _⟩ => by rw [e]; rfl) rfl fun es r pre => ?_
  obtain ⟨f, x, y, rfl, fl, ok, oky, rfl⟩ := pre
  show Run _ _ _ [.sh (d f), .sh x, .sh y, .no, .no, .no, .no] _ _
  cases hp : partsX f x with
  | none =>
    rw [turnedR_none hp]
    exact r_seq (r_asgX (er_pxW (P := PartsP K) (ea_cons' (ex_var rfl) (ea_cons' (ex_var rfl) ea_nil')) ⟨f, _, rfl, fl, ok, (partsX_bad hp).symm⟩ fun c H z σ _ => z) rfl)
  | some D =>
    have F := partsX_full fl hp
    have nk := partsX_nk fl hp
    have ll := keys_len nk (fun q x hq => F.half.mem q x hq) fl.sm
    refine r_seq (r_ownD (i := 3) (B := D) (exN_pxW (P := PartsP K) (ea_cons' (ex_var rfl) (ea_cons' (ex_var rfl) ea_nil')) ⟨f, _, rfl, fl, ok, (partsX_ok hp).symm⟩) fun p => ?_)
    show Run _ _ _ [.sh (d f), .sh x, .sh y, .ow p (d D), .no, .no, .no] _ _
    refine r_seq (r_if (b := !isPlaceD y || !decide (ptD y ∈ turnsB f D)) (et_or' (et_not' (et_tr' (ex_call1 (f := isPlaceD) (pre := okThing) (x := y) (ex_var rfl) oky))) fun hn => et_of' (ex_notin (x := ptD y) (xs := turnsB f D) (ex_eq (ex_var rfl) (place_pt (by simpa using hn))) (exN_call2 (f := turnsB) (pre := fun f D => FlG K f ∧ Full f.cells D) (x := f) (y := D) (ex_var rfl) (ex_var rfl) ⟨fl, F⟩).ex)) (fun hb => r_raise ?_) fun hb => r_next ?_)
    · exact turnedR_no hp fun z => by
        rw [z.1, decide_eq_true z.2] at hb
        cases hb
    rw [Bool.or_eq_false_iff] at hb
    have pl : isPlaceD y = true := by simpa using hb.1
    have mt : ptD y ∈ turnsB f D := by simpa using hb.2
    have tu := (mem_turnsB fl F).mp mt
    have ey := place_pt pl
    show Run _ _ _ [.sh (d f), .sh x, .sh y, .ow p (d D), .no, .no, .no] _ _
    rw [turnedR_ok hp ⟨pl, mt⟩]
    generalize ptD y = c at tu ey mt ⊢
    have I := (turn_cor F tu).1
    have al : (afterB D c).length = 2 := by unfold afterB; split <;> rfl
    refine r_seq (r_asg (e := d (afterB D c)) (es_seeL (exN_call2 (f := afterB) (pre := fun D c => (D.get (c.1 - 1, c.2 - 1)).isSome = true) (x := D) (y := c) (ex_var rfl) (ex_eq (ex_var rfl) ey) (F.all _ I.1))) ?_)
    show Run _ _ _ [.sh (d f), .sh x, .sh y, .ow p (d D), .sh (d (afterB D c)), .no, .no] _ _
    refine r_seq (r_forF (xs := afterB D c) (fun D' => [.sh (d f), .sh x, .sh y, .ow p (d D'), .no, .no, .no]) (fun (D' : Dc Pt) (e : Pc) => putPair D' e.1 e.2) D (fun i D' => D'.l.length ≤ D.l.length + 2 * i) (ei_list' (ex_var rfl)) (by wtm_at "tf_less") (Nat.le_refl _) (fun i e D' he _ hD' => ?_) fun _ => ?_)
    · have hi := (List.getElem?_eq_some_iff.mp he).1
      have h2 := putPair_len D' e.1 e.2
      have h3 := Dc.put_len D' e.1 e.2
      refine ⟨by omega, _, bd_tup (bds_cons bd_name (bds_cons bd_name bds_nil)), ?_⟩
      show Run _ _ _ [.sh (d f), .sh x, .sh y, .ow p (d D'), .no, .sh (d e.1), .sh (d e.2)] _ _
      refine r_seq (r_dput (B := D') (q := e.1) (x := e.2) (i := 3) (p := p) rfl (es_hid (ex_var rfl)) (es_hid (ex_var rfl)) (by omega) ?_)
      refine r_dput (B := D'.put e.1 e.2) (q := e.2) (x := e.1) (i := 3) (p := p) rfl (es_hid (ex_var rfl)) (es_hid (ex_var rfl)) (by omega) ?_
      wtm_at "tf_less"
    · exact r_ret (es_seeL (exN_call2 (f := fun (f : Fl) (D : Dc Pt) => layF f.cells D) (pre := fun f D => FlG K f ∧ Full f.cells D) (x := f) (y := turnedB D c) (ex_var rfl) (ex_var rfl) ⟨fl, turnedB_full F tu⟩)) ⟨rfl, fun _ => rfl⟩
end Tf

namespace Tf
open PySem PySem.Spec PyProof.Rows L2 Dt
def n__law_pairs_flat : List Str := ["_law_rows", "_law_upright", "_law_pairs", "_law_y", "_law_xs", "_law_k", "_law_one", "_law_other", "_law_x"]
theorem sc__law_pairs_flat : FnScope n__law_pairs_flat ["_law_rows", "_law_upright"] (defScope s__law_pairs_flat) := ⟨rfl, rfl, rfl, by decide +kernel, rfl, by decide +kernel, by decide +kernel⟩
theorem ok__law_pairs_flat {P : Program} {w : World} {K : PySem.W.Frag} {mg : Str → Option Value} {base : Heap} (Z : Top hfa hfn K mg) :
    ∃ fd, Fd P w K mg base CX0 1 "_law_pairs_flat" (He.ga K "_law_pairs_flat") fd ["_law_rows", "_law_upright"] (sp__law_pairs_flat K) := by
  obtain ⟨fd, F⟩ := Z.def_ 29 (d := d__law_pairs_flat) rfl
  refine ⟨fd, FunD.ok F sc__law_pairs_flat (fun vs H Q E h => len2 h) fun cdv A outer s H vs Q E hr h => ?_, Z.glo 21 (x := "_law_pairs_flat") rfl, F.kp, FunD.bindsN F (ps := ["_law_rows", "_law_upright"]) fun _ _ _ _ _ _ us hl => match us, hl with | [_, _], _ => rfl⟩
  have hu0 := hr.units0
  have hu1 := hu_of hr
  have hu64 := hr.units
  have hu65 := hu65_of hr
  refine ⟨_, PSs.nox (pss_cons (ps_set (i := 2) sc__law_pairs_flat.nd rfl (Or.inl rfl) pe_dnewU)
      (pss_cons (ps_for PassesOwn.never rfl (pi_range1 (by rfl) (Z.free 84 (x := "range") rfl) (pa_cons (pe_callB (crK rLenU K ucall_len) (by rfl) (Z.free 80 (x := "len") rfl) (by decide +kernel) (pa_cons (pv 0) pa_nil)) pa_nil)) (pg_name (i := 3) sc__law_pairs_flat.nd rfl (Or.inr rfl)) (pss_cons (ps_setLc (i := 4) (own := [("_law_x", 8)]) rfl sc__law_pairs_flat.nd rfl rfl (sw_true rfl rfl rfl (by decide +kernel)) (pi_range1 (by rfl) (Z.free 84 (x := "range") rfl) (pa_cons (pe_callB (crK rLenU K ucall_len) (by rfl) (Z.free 80 (x := "len") rfl) (by decide +kernel) (pa_cons (pe_ixK K hu1 (pv 0) (pv 3)) pa_nil)) pa_nil)) (blkOk_by (own := [("_law_x", 8)]) (N := n__law_pairs_flat) (sc := defScope s__law_pairs_flat) (by decide +kernel)) (fun _ _ _ _ _ => by exact (pg_name (i := 8) sc__law_pairs_flat.nd rfl (Or.inl rfl))) (fun _ _ _ _ _ => by exact (pts_one (pt_cmp (pc_op (opK rEqD K (op_eqD hu64)) (pe_ixK K hu1 (pe_ixK K hu1 (pv 0) (pv 3)) (pv 8)) pe_str)))) (fun _ _ _ _ _ => by exact (pv 8)))
      (pss_one (ps_for PassesOwn.never rfl (pi_range3 (by rfl) (Z.free 84 (x := "range") rfl) (pa_cons pe_int (pa_cons (pe_callB (crK rLenU K ucall_len) (by rfl) (Z.free 80 (x := "len") rfl) (by decide +kernel) (pa_cons (pv 4) pa_nil)) (pa_cons pe_int pa_nil)))) (pg_name (i := 5) sc__law_pairs_flat.nd rfl (Or.inl rfl)) (pss_cons (ps_par (i := 6) (j := 7) rfl sc__law_pairs_flat.nd rfl rfl (by decide) rfl rfl (pa_cons (pe_tup (pa_cons (pe_ixK K hu1 (pv 4) (pv 5)) (pa_cons (pv 3) pa_nil))) (pa_cons (pe_tup (pa_cons (pe_ixK K hu1 (pv 4) (pe_op uop_add (pv 5) pe_int)) (pa_cons (pv 3) pa_nil))) pa_nil)) (by rfl))
      (pss_cons (ps_if (pt_trK K (pv 1)) (pss_one (ps_par (i := 6) (j := 7) rfl sc__law_pairs_flat.nd rfl rfl (by decide) rfl rfl (pa_cons (pe_tup (pa_cons (pv 3) (pa_cons (pe_ixK K hu1 (pv 4) (pv 5)) pa_nil))) (pa_cons (pe_tup (pa_cons (pv 3) (pa_cons (pe_ixK K hu1 (pv 4) (pe_op uop_add (pv 5) pe_int)) pa_nil))) pa_nil)) (by rfl))) pss_nil)
      (pss_cons (ps_dput hu1 (pv 2) (pv 6) (pv 7) rfl)
      (pss_one (ps_dput hu1 (pv 2) (pv 7) (pv 6) rfl)))))))))
      (pss_one (ps_ret (pv 2))))), ?_⟩
  clear hu0 hu1 hu64 hu65 hr F
  refine run_pu2 (K := K) 7 h rfl fun rows up pre => ?_
  obtain ⟨fine, ev⟩ := pre
  have br := fine.br
  have l6 := fine.len
  have w6 := fine.w6
  have same := br.2.2.2
  show Run _ _ _ [.sh (d rows), .sh (d up), .no, .no, .no, .no, .no, .no, .no] _ _
  refine r_seq (r_ownD (i := 2) (B := (⟨[]⟩ : Dc Pt)) exN_dnew fun p => ?_)
  show Run _ _ _ [.sh (d rows), .sh (d up), .ow p (d (⟨[]⟩ : Dc Pt)), .no, .no, .no, .no, .no, .no] _ _
  refine r_seq (r_forF (xs := rangeI 0 rows.length) (fun D => [.sh (d rows), .sh (d up), .ow p (d D), .no, .no, .no, .no, .no, .no]) (fun D y => flatRow up y D (ones (rowAt rows y))) (⟨[]⟩ : Dc Pt) (fun i D => D.l.length ≤ 8 * i) (ei_range1' (ex_len (ex_var rfl)) (by omega)) (by wtm_at "tf_less") (Nat.le_refl _) (fun i y D hy eD hD => ?_) fun hD => ?_)
  · have yr := mem_rangeI.mp (List.mem_of_getElem? hy)
    have il := (List.getElem?_eq_some_iff.mp hy).1
    rw [rangeI_length] at il
    have yl : y.toNat < rows.length := by omega
    have rm : rowAt rows y ∈ rows := by
      unfold rowAt
      rw [List.getD_eq_getElem?_getD, List.getElem?_eq_getElem yl]
      exact List.getElem_mem yl
    have rl : (rowAt rows y).bs.length ≤ 6 := by rw [same _ rm]; exact w6
    have er := ev _ rm
    have ol : (ones (rowAt rows y)).length ≤ 6 := by
      have := List.length_filter_le (fun x : Int => (rowAt rows y).bs.getD x.toNat false) (rangeI 0 (rowAt rows y).bs.length)
      rw [rangeI_length] at this
      exact Nat.le_trans this rl
    have oe := pairUp_even er
    have fl := flatRow_len up y (ones (rowAt rows y)) D
    refine ⟨by omega, _, bd_name, ?_⟩
    show Run _ _ _ [.sh (d rows), .sh (d up), .ow p (d D), .sh (d y), .no, .no, .no, .no, .no] _ _
    refine r_seq (r_asg (e := d (ones (rowAt rows y))) (es_hid (ex_eq (exN_lc (xs := rangeI 0 ((rowAt rows y).bs.length : Int).toNat) (p := fun x => (rowAt rows y).bs.getD x.toNat false) (f := fun x : Int => x) (ei_range1' (ex_lenR (r := rowAt rows y) (ex_ixG (xs := rows) (i := y) (ex_var rfl) (ex_var rfl) inferInstance ⟨yr.1, yl⟩) (by omega)) (by omega)) (fun _ _ => bd_name) (fun _ _ => rfl) (fun x hx => et_of' (ex_sign (ex_ixR (r := rowAt rows y) (i := x) (ex_ixG (xs := rows) (i := y) (ex_var rfl) (ex_var rfl) inferInstance ⟨yr.1, yl⟩) (ex_var rfl) ?_))) (fun x _ _ => ex_var rfl) (by rw [rangeI_length]; omega)).ex ?_)) ?_)
    · have := mem_rangeI.mp hx
      exact ⟨⟨this.1, by omega⟩, by omega⟩
    · exact congrArg d (List.map_id' _)
    show Run _ _ _ [.sh (d rows), .sh (d up), .ow p (d D), .sh (d y), .sh (d (ones (rowAt rows y))), .no, .no, .no, .no] _ _
    generalize ones (rowAt rows y) = xs at er ol oe fl ⊢
    refine r_forF (xs := rng2 ((xs.length + 1) / 2)) (fun D => [.sh (d rows), .sh (d up), .ow p (d D), .sh (d y), .sh (d xs), .no, .no, .no, .no]) (flatStep up y xs) D (fun j D' => D'.l.length ≤ D.l.length + 2 * j) (ei_range3 (ex_len (ex_var rfl)) ol) (by wtm_at "tf_less") (Nat.le_refl _) (fun j k D' hk eD' hD' => ?_) fun _ => ?_
    · have jl := (List.getElem?_eq_some_iff.mp hk).1
      have jl' : j < (xs.length + 1) / 2 := by simpa [rng2] using jl
      rw [rng2_get jl'] at hk
      have kv : k = 2 * (j : Int) := (Option.some.inj hk).symm
      subst kv
      have i1 : (0 : Int) ≤ 2 * (j : Int) ∧ (2 * (j : Int)).toNat < xs.length := ⟨by omega, by omega⟩
      have i2 : (0 : Int) ≤ 2 * (j : Int) + 1 ∧ (2 * (j : Int) + 1).toNat < xs.length := ⟨by omega, by omega⟩
      have pl2 := putPair_len D' (pl up (xs.getD (2 * (j : Int)).toNat default) y) (pl up (xs.getD (2 * (j : Int) + 1).toNat default) y)
      refine ⟨by unfold flatStep; omega, _, bd_name, ?_⟩
      have n : Nat := 0
      unfold flatStep
      have small : D'.l.length < 99999 := by omega
      generalize hk0 : 2 * (j : Int) = k at i1 i2 ⊢
      show Run _ _ _ [.sh (d rows), .sh (d up), .ow p (d D'), .sh (d y), .sh (d xs), .sh (d k), .no, .no, .no] _ _
      refine r_seq (r_par (es_hid (ex_pair (ex_ixG (xs := xs) (i := k) (ex_var rfl) (ex_var rfl) inferInstance i1) (ex_var rfl))) (es_hid (ex_pair (ex_ixG (xs := xs) (i := k + 1) (ex_var rfl) (ex_add (ex_var rfl) ex_int) inferInstance i2) (ex_var rfl))) ?_)
      have pz := Dc.put_len D'
      refine r_seq (r_if (b := up) (et_tr' (ex_var rfl)) (fun hb => ?_) (fun hb => ?_))
      · subst hb
        refine r_par (es_hid (ex_pair (ex_var rfl) (ex_ixG (xs := xs) (i := k) (ex_var rfl) (ex_var rfl) inferInstance i1))) (es_hid (ex_pair (ex_var rfl) (ex_ixG (xs := xs) (i := k + 1) (ex_var rfl) (ex_add (ex_var rfl) ex_int) inferInstance i2))) ?_
        show Run _ _ _ [.sh (d rows), .sh (d true), .ow p (d D'), .sh (d y), .sh (d xs), .sh (d k), .sh (d (pl true (xs.getD k.toNat default) y)), .sh (d (pl true (xs.getD (k + 1).toNat default) y)), .no] _ _
        generalize pl true (xs.getD k.toNat default) y = q1
        generalize pl true (xs.getD (k + 1).toNat default) y = q2
        have pq := pz q1 q2
        refine r_seq (r_dput (B := D') (q := q1) (x := q2) (i := 2) (p := p) rfl (es_hid (ex_var rfl)) (es_hid (ex_var rfl)) (by omega) ?_)
        refine r_dput (B := D'.put q1 q2) (q := q2) (x := q1) (i := 2) (p := p) rfl (es_hid (ex_var rfl)) (es_hid (ex_var rfl)) (by omega) ?_
        wtm_at "tf_less"
      · subst hb
        refine r_next ?_
        show Run _ _ _ [.sh (d rows), .sh (d false), .ow p (d D'), .sh (d y), .sh (d xs), .sh (d k), .sh (d (pl false (xs.getD k.toNat default) y)), .sh (d (pl false (xs.getD (k + 1).toNat default) y)), .no] _ _
        generalize pl false (xs.getD k.toNat default) y = q1
        generalize pl false (xs.getD (k + 1).toNat default) y = q2
        have pq := pz q1 q2
        refine r_seq (r_dput (B := D') (q := q1) (x := q2) (i := 2) (p := p) rfl (es_hid (ex_var rfl)) (es_hid (ex_var rfl)) (by omega) ?_)
        refine r_dput (B := D'.put q1 q2) (q := q2) (x := q1) (i := 2) (p := p) rfl (es_hid (ex_var rfl)) (es_hid (ex_var rfl)) (by omega) ?_
        wtm_at "tf_less"
    · wtm_at "tf_less"
  · exact r_retO (i := 2) rfl ⟨rfl, fun z => nomatch z⟩
def n__law_floor_by : List Str := ["_law_script", "_law_cell", "_law_rows", "_law_upright", "_law_pairs"]
theorem sc__law_floor_by : FnScope n__law_floor_by ["_law_script"] (defScope s__law_floor_by) := ⟨rfl, rfl, rfl, by decide +kernel, rfl, by decide +kernel, by decide +kernel⟩
theorem ok__law_floor_by {P : Program} {w : World} {K : PySem.W.Frag} {mg : Str → Option Value} {base : Heap} (Z : Top hfa hfn K mg) :
    ∃ fd, Fd P w K mg base CX0 3 "_law_floor_by" (He.ga K "_law_floor_by") fd ["_law_script"] (sp__law_floor_by K) := by
  obtain ⟨fd, F⟩ := Z.def_ 32 (d := d__law_floor_by) rfl
  obtain ⟨fd__law_turned_rows, G__law_turned_rows⟩ := ok__law_turned_rows (P := P) (w := w) (base := base) Z
  obtain ⟨fd__law_pairs_flat, G__law_pairs_flat⟩ := ok__law_pairs_flat (P := P) (w := w) (base := base) Z
  obtain ⟨fd__law_rows_by, G__law_rows_by⟩ := ok__law_rows_by (P := P) (w := w) (base := base) Z
  obtain ⟨fd__law_cell_at, G__law_cell_at⟩ := ok__law_cell_at (P := P) (w := w) (base := base) Z
  refine ⟨fd, FunD.ok F sc__law_floor_by (fun vs H Q E h => lenC1 h) fun cdv A outer s H vs Q E hr h => ?_, Z.glo 24 (x := "_law_floor_by") rfl, F.kp, FunD.bindsN F (ps := ["_law_script"]) fun _ _ _ _ _ _ us hl => match us, hl with | [_], _ => rfl⟩
  have hu0 := hr.units0
  have hu1 := hu_of hr
  have hu64 := hr.units
  have hu65 := hu65_of hr
  refine ⟨_, PSs.nox (pss_cons (ps_set (i := 1) sc__law_floor_by.nd rfl (Or.inl rfl) (pe_fd G__law_cell_at (hr.mono (by decide)) pass0 (pa_cons (pv 0) (pa_cons pe_int pa_nil))))
      (pss_cons (ps_set (i := 2) sc__law_floor_by.nd rfl (Or.inl rfl) (pe_fd G__law_rows_by (hr.mono (by decide)) pass0 (pa_cons (pv 1) (pa_cons (pe_fd G__law_cell_at (hr.mono (by decide)) pass0 (pa_cons (pv 0) (pa_cons pe_int pa_nil))) (pa_cons pe_bl pa_nil)))))
      (pss_cons (ps_if (pt_cmp (pc_op (opK rEqD K (op_eqD hu64)) (pe_op op_mod (pv 1) pe_int) pe_int)) (pss_one (ps_set (i := 2) sc__law_floor_by.nd rfl (Or.inl rfl) (pe_ixK K hu1 (pe_lst (pa_cons (pe_lst (pa_cons pe_str (pa_cons pe_str (pa_cons pe_str pa_nil)))) (pa_cons (pe_lst (pa_cons pe_str (pa_cons pe_str (pa_cons pe_str (pa_cons pe_str (pa_cons pe_str pa_nil)))))) (pa_cons (pe_lst (pa_cons pe_str (pa_cons pe_str (pa_cons pe_str (pa_cons pe_str pa_nil))))) (pa_cons (pe_lst (pa_cons pe_str (pa_cons pe_str (pa_cons pe_str (pa_cons pe_str (pa_cons pe_str pa_nil)))))) pa_nil))))) (pe_op op_mod (pe_op op_fdiv (pv 1) pe_int) pe_int)))) pss_nil)
      (pss_cons (ps_set (i := 3) sc__law_floor_by.nd rfl (Or.inl rfl) (pe_cmp (pc_op (opK rEqD K (op_eqD hu64)) (pe_op op_mod (pe_op op_fdiv (pv 1) pe_int) pe_int) pe_int)))
      (pss_cons (ps_set (i := 4) sc__law_floor_by.nd rfl (Or.inl rfl) (pe_fd G__law_pairs_flat (hr.mono (by decide)) pass0 (pa_cons (pv 2) (pa_cons (pv 3) pa_nil))))
      (pss_cons (ps_if (pt_trK K (pv 3)) (pss_one (ps_set (i := 2) sc__law_floor_by.nd rfl (Or.inl rfl) (pe_fd G__law_turned_rows (hr.mono (by decide)) pass0 (pa_cons (pv 2) pa_nil)))) pss_nil)
      (pss_one (ps_ret (pe_tup (pa_cons (pv 2) (pa_cons (pv 4) pa_nil))))))))))), ?_⟩
  clear hu0 hu1 hu64 hu65 hr F
  refine run_puC1 (K := K) 4 h rfl fun ns => ?_
  obtain ⟨fine, ev⟩ := base_ok ns
  show Run _ _ _ [.sc K ns, .no, .no, .no, .no] _ _
  refine r_seq (r_asg (e := d (cellAt ns 0)) (es_hid (by wtm_at "tf_go")) ?_)
  refine r_seq (r_asg (e := d (rowsBy (cellAt ns 0) (cellAt ns 1) true)) (es_hid (ex_call3 (f := rowsBy) (pre := fun _ _ _ => True) (ex_var rfl) (by wtm_at "tf_go") ex_bool trivial)) ?_)
  show Run _ _ _ [.sc K ns, .sh (d (cellAt ns 0)), .sh (d (rowsBy (cellAt ns 0) (cellAt ns 1) true)), .no, .no] _ _
  have m7 := Int.emod_nonneg (cellAt ns 0) (show (7 : Int) ≠ 0 by decide)
  refine r_seq (r_if (b := decide (cellAt ns 0 % 7 = 6)) (et_of' (ex_eqI (ex_mod (ex_var rfl) ex_int (by decide)) ex_int)) (fun hb => ?_) (fun hb => ?_))
  · have e : fixedE.getD (cellAt ns 0 / 7 % 4).toNat default = baseRows ns := by
      unfold baseRows
      rw [if_pos (of_decide_eq_true hb)]
    refine r_asg (e := d (baseRows ns)) (es_hid (ex_eq (ex_ixG (xs := fixedE) (i := cellAt ns 0 / 7 % 4) (exN_lst (exs_cons (α := BR) (exN_lst ?_).ex (exs_cons (exN_lst ?_).ex (exs_cons (exN_lst ?_).ex (exs_cons (exN_lst ?_).ex exs_nil)))) (Nat.le_of_ble_eq_true rfl)).ex (ex_mod (ex_fdiv (ex_var rfl) ex_int (by decide)) ex_int (by decide)) inferInstance ⟨by omega, by show _ < 4; omega⟩) (congrArg d e))) ?_
    · exact exs_cons (ex_row (by decide +kernel)) (exs_cons (ex_row (by decide +kernel)) (exs_cons (ex_row (by decide +kernel)) exs_nil))
    · exact exs_cons (ex_row (by decide +kernel)) (exs_cons (ex_row (by decide +kernel)) (exs_cons (ex_row (by decide +kernel)) (exs_cons (ex_row (by decide +kernel)) (exs_cons (ex_row (by decide +kernel)) exs_nil))))
    · exact exs_cons (ex_row (by decide +kernel)) (exs_cons (ex_row (by decide +kernel)) (exs_cons (ex_row (by decide +kernel)) (exs_cons (ex_row (by decide +kernel)) exs_nil)))
    · exact exs_cons (ex_row (by decide +kernel)) (exs_cons (ex_row (by decide +kernel)) (exs_cons (ex_row (by decide +kernel)) (exs_cons (ex_row (by decide +kernel)) (exs_cons (ex_row (by decide +kernel)) exs_nil))))
    show Run _ _ _ [.sc K ns, .sh (d (cellAt ns 0)), .sh (d (baseRows ns)), .no, .no] _ _
    refine r_seq (r_asg (e := d (upOf ns)) (es_hid (ex_eqI (ex_mod (ex_fdiv (ex_var rfl) ex_int (by decide)) ex_int (by decide)) ex_int)) ?_)
    refine r_seq (r_asg (e := d (flatPairs (baseRows ns) (upOf ns))) (es_hid (ex_call2 (f := flatPairs) (pre := fun rows _ => Fine rows ∧ EvenRows rows) (ex_var rfl) (ex_var rfl) ⟨fine, ev⟩)) ?_)
    refine r_seq (r_if (b := upOf ns) (et_tr' (ex_var rfl)) (fun hu => ?_) (fun hu => ?_))
    · refine r_asg (e := d (turned (baseRows ns))) (es_hid (ex_call1 (f := turned) (pre := okBR) (ex_var rfl) fine.br)) ?_
      refine r_ret (es_hid (ex_eq (ex_pair (x := turned (baseRows ns)) (y := flatPairs (baseRows ns) (upOf ns)) (ex_var rfl) (ex_var rfl)) ?_)) ⟨rfl, fun z => nomatch z⟩
      unfold canRows
      rw [if_pos hu]
    · refine r_next ?_
      refine r_ret (es_hid (ex_eq (ex_pair (x := baseRows ns) (y := flatPairs (baseRows ns) (upOf ns)) (ex_var rfl) (ex_var rfl)) ?_)) ⟨rfl, fun z => nomatch z⟩
      unfold canRows
      rw [if_neg (by rw [hu]; decide)]
  · have e : rowsBy (cellAt ns 0) (cellAt ns 1) true = baseRows ns := by
      unfold baseRows
      rw [if_neg (of_decide_eq_false hb)]
    refine r_next ?_
    rw [e]
    show Run _ _ _ [.sc K ns, .sh (d (cellAt ns 0)), .sh (d (baseRows ns)), .no, .no] _ _
    refine r_seq (r_asg (e := d (upOf ns)) (es_hid (ex_eqI (ex_mod (ex_fdiv (ex_var rfl) ex_int (by decide)) ex_int (by decide)) ex_int)) ?_)
    refine r_seq (r_asg (e := d (flatPairs (baseRows ns) (upOf ns))) (es_hid (ex_call2 (f := flatPairs) (pre := fun rows _ => Fine rows ∧ EvenRows rows) (ex_var rfl) (ex_var rfl) ⟨fine, ev⟩)) ?_)
    refine r_seq (r_if (b := upOf ns) (et_tr' (ex_var rfl)) (fun hu => ?_) (fun hu => ?_))
    · refine r_asg (e := d (turned (baseRows ns))) (es_hid (ex_call1 (f := turned) (pre := okBR) (ex_var rfl) fine.br)) ?_
      refine r_ret (es_hid (ex_eq (ex_pair (x := turned (baseRows ns)) (y := flatPairs (baseRows ns) (upOf ns)) (ex_var rfl) (ex_var rfl)) ?_)) ⟨rfl, fun z => nomatch z⟩
      unfold canRows
      rw [if_pos hu]
    · refine r_next ?_
      refine r_ret (es_hid (ex_eq (ex_pair (x := baseRows ns) (y := flatPairs (baseRows ns) (upOf ns)) (ex_var rfl) (ex_var rfl)) ?_)) ⟨rfl, fun z => nomatch z⟩
      unfold canRows
      rw [if_neg (by rw [hu]; decide)]
def n__law_turn : List Str := ["_law_pairs", "_law_corner", "_law_x", "_law_y", "_law_one", "_law_two", "_law_three", "_law_four", "_law_some", "_law_cell", "_law_other"]
theorem sc__law_turn : FnScope n__law_turn ["_law_pairs", "_law_corner"] (defScope s__law_turn) := ⟨rfl, rfl, rfl, by decide +kernel, rfl, by decide +kernel, by decide +kernel⟩
theorem ok__law_turn {P : Program} {w : World} {K : PySem.W.Frag} {mg : Str → Option Value} {base : Heap} (Z : Top hfa hfn K mg) :
    ∃ fd, Fd P w K mg base CX0 1 "_law_turn" (He.ga K "_law_turn") fd ["_law_pairs", "_law_corner"] (sp__law_turn K) := by
  obtain ⟨fd, F⟩ := Z.def_ 30 (d := d__law_turn) rfl
  refine ⟨fd, FunD.ok F sc__law_turn (fun vs H Q E h => lenTu h) fun cdv A outer s H vs Q E hr h => ?_, Z.glo 22 (x := "_law_turn") rfl, F.kp, FunD.bindsN F (ps := ["_law_pairs", "_law_corner"]) fun _ _ _ _ _ _ us hl => match us, hl with | [_, _], _ => rfl⟩
  have hu0 := hr.units0
  have hu1 := hu_of hr
  have hu64 := hr.units
  have hu65 := hu65_of hr
  refine ⟨_, PSs.nox (pss_cons (ps_asg (pv 1) (pg_tupK K (n := 2) rfl (pgs_cons (pg_name (i := 2) sc__law_turn.nd rfl (Or.inl rfl)) (pgs_cons (pg_name (i := 3) sc__law_turn.nd rfl (Or.inl rfl)) pgs_nil))))
      (pss_cons (ps_asg (pe_tup (pa_cons (pe_tup (pa_cons (pe_op op_sub (pv 2) pe_int) (pa_cons (pe_op op_sub (pv 3) pe_int) pa_nil))) (pa_cons (pe_tup (pa_cons (pv 2) (pa_cons (pe_op op_sub (pv 3) pe_int) pa_nil))) (pa_cons (pe_tup (pa_cons (pe_op op_sub (pv 2) pe_int) (pa_cons (pv 3) pa_nil))) (pa_cons (pe_tup (pa_cons (pv 2) (pa_cons (pv 3) pa_nil))) pa_nil))))) (pg_tupK K (n := 4) rfl (pgs_cons (pg_name (i := 4) sc__law_turn.nd rfl (Or.inl rfl)) (pgs_cons (pg_name (i := 5) sc__law_turn.nd rfl (Or.inl rfl)) (pgs_cons (pg_name (i := 6) sc__law_turn.nd rfl (Or.inl rfl)) (pgs_cons (pg_name (i := 7) sc__law_turn.nd rfl (Or.inl rfl)) pgs_nil))))))
      (pss_cons (ps_if (PW.pt (pw_and (pt_cmp (pc_op (opK rEqD K (op_eqD hu64)) (pe_dget1 hu1 (pv 0) (pv 4) ⟨rfl, rfl, rfl, rfl⟩) (pv 5))) (pw_and1 (pt_cmp (pc_op (opK rEqD K (op_eqD hu64)) (pe_dget1 hu1 (pv 0) (pv 6) ⟨rfl, rfl, rfl, rfl⟩) (pv 7)))))) (pss_one (ps_set (i := 8) sc__law_turn.nd rfl (Or.inl rfl) (pe_lst (pa_cons (pe_tup (pa_cons (pv 4) (pa_cons (pv 6) pa_nil))) (pa_cons (pe_tup (pa_cons (pv 5) (pa_cons (pv 7) pa_nil))) pa_nil))))) (pss_one (ps_if (PW.pt (pw_and (pt_cmp (pc_op (opK rEqD K (op_eqD hu64)) (pe_dget1 hu1 (pv 0) (pv 4) ⟨rfl, rfl, rfl, rfl⟩) (pv 6))) (pw_and1 (pt_cmp (pc_op (opK rEqD K (op_eqD hu64)) (pe_dget1 hu1 (pv 0) (pv 5) ⟨rfl, rfl, rfl, rfl⟩) (pv 7)))))) (pss_one (ps_set (i := 8) sc__law_turn.nd rfl (Or.inl rfl) (pe_lst (pa_cons (pe_tup (pa_cons (pv 4) (pa_cons (pv 5) pa_nil))) (pa_cons (pe_tup (pa_cons (pv 6) (pa_cons (pv 7) pa_nil))) pa_nil))))) (pss_one (ps_ret pe_bl)))))
      (pss_cons (ps_for PassesOwn.never rfl (pi_anyK K (pv 8)) (pg_tupK K (n := 2) rfl (pgs_cons (pg_name (i := 9) sc__law_turn.nd rfl (Or.inl rfl)) (pgs_cons (pg_name (i := 10) sc__law_turn.nd rfl (Or.inl rfl)) pgs_nil))) (pss_cons (ps_dput hu1 (pv 0) (pv 9) (pv 10) rfl)
      (pss_one (ps_dput hu1 (pv 0) (pv 10) (pv 9) rfl))))
      (pss_one (ps_ret pe_bl)))))), ?_⟩
  clear hu0 hu1 hu64 hu65 hr F
  refine run_puMG (K := K) 9 1 h (fun g es e z => by rw [z.1]; rfl) rfl fun g es e p pre => ?_
  obtain ⟨rfl, rfl, sz⟩ := pre
  obtain ⟨D, cx, cy⟩ := g
  have sz' : D.l.length ≤ 1000 := sz
  show Run _ _ _ [.ow p (d D), .sh (d (cx, cy)), .no, .no, .no, .no, .no, .no, .no, .no, .no] _ _
  refine r_seq (r_asgT (e := d (cx, cy)) (es_hid (ex_var rfl)) (bd_tup (bds_cons bd_name (bds_cons bd_name bds_nil))) ?_)
  show Run _ _ _ [.ow p (d D), .sh (d (cx, cy)), .sh (d cx), .sh (d cy), .no, .no, .no, .no, .no, .no, .no] _ _
  refine r_seq (r_asgT (e := .tuple [d (cx - 1, cy - 1), d (cx, cy - 1), d (cx - 1, cy), d (cx, cy)]) (es_hid (ex_tupX (ea_cons' (ex_pair (x := cx - 1) (y := cy - 1) (ex_sub (ex_var rfl) ex_int) (ex_sub (ex_var rfl) ex_int)) (ea_cons' (ex_pair (x := cx) (y := cy - 1) (ex_var rfl) (ex_sub (ex_var rfl) ex_int)) (ea_cons' (ex_pair (x := cx - 1) (y := cy) (ex_sub (ex_var rfl) ex_int) (ex_var rfl)) (ea_cons' (ex_pair (x := cx) (y := cy) (ex_var rfl) (ex_var rfl)) ea_nil')))))) (bd_tup (bds_cons bd_name (bds_cons bd_name (bds_cons bd_name (bds_cons bd_name bds_nil))))) ?_)
  show Run _ _ _ [.ow p (d D), .sh (d (cx, cy)), .sh (d cx), .sh (d cy), .sh (d (cx - 1, cy - 1)), .sh (d (cx, cy - 1)), .sh (d (cx - 1, cy)), .sh (d (cx, cy)), .no, .no, .no] _ _
  refine r_seq (r_if (b := decide (D.get (cx - 1, cy - 1) = some (cx, cy - 1)) && decide (D.get (cx - 1, cy) = some (cx, cy))) (et_and' (et_of' (ex_eqO (o := D.get (cx - 1, cy - 1)) (q := (cx, cy - 1)) (ex_dget1 (B := D) (q := (cx - 1, cy - 1)) (ex_var rfl) (ex_var rfl)) (ex_var rfl))) fun _ => et_of' (ex_eqO (o := D.get (cx - 1, cy)) (q := (cx, cy)) (ex_dget1 (B := D) (q := (cx - 1, cy)) (ex_var rfl) (ex_var rfl)) (ex_var rfl))) (fun hb => ?_) fun hb => ?_)
  · rw [Bool.and_eq_true] at hb
    have b1 := of_decide_eq_true hb.1
    have b2 := of_decide_eq_true hb.2
    refine r_asg (e := d ([((cx - 1, cy - 1), (cx - 1, cy)), ((cx, cy - 1), (cx, cy))] : List (Pt × Pt))) (es_hid (exN_lst (exs_cons (ex_pair (ex_var rfl) (ex_var rfl)) (exs_cons (ex_pair (ex_var rfl) (ex_var rfl)) exs_nil))).ex) ?_
    show Run _ _ _ [.ow p (d D), .sh (d (cx, cy)), .sh (d cx), .sh (d cy), .sh (d (cx - 1, cy - 1)), .sh (d (cx, cy - 1)), .sh (d (cx - 1, cy)), .sh (d (cx, cy)), .sh (d ([((cx - 1, cy - 1), (cx - 1, cy)), ((cx, cy - 1), (cx, cy))] : List (Pt × Pt))), .no, .no] _ _
    refine r_seq (r_forF (xs := [((cx - 1, cy - 1), (cx - 1, cy)), ((cx, cy - 1), (cx, cy))]) (fun D' => [.ow p (d D'), .sh (d (cx, cy)), .sh (d cx), .sh (d cy), .sh (d (cx - 1, cy - 1)), .sh (d (cx, cy - 1)), .sh (d (cx - 1, cy)), .sh (d (cx, cy)), .no, .no, .no]) (fun (D' : Dc Pt) (e : Pt × Pt) => putPair D' e.1 e.2) D (fun i D' => D'.l.length ≤ D.l.length + 2 * i) (ei_list' (ex_var (e := d ([((cx - 1, cy - 1), (cx - 1, cy)), ((cx, cy - 1), (cx, cy))] : List (Pt × Pt))) rfl)) (by wtm_at "tf_less") (Nat.le_refl _) (fun i e D' he _ hD' => ?_) fun _ => ?_)
    · have il := (List.getElem?_eq_some_iff.mp he).1
      have il' : i < 2 := il
      have h2 := putPair_len D' e.1 e.2
      have h3 := Dc.put_len D' e.1 e.2
      refine ⟨by omega, _, bd_tup (bds_cons bd_name (bds_cons bd_name bds_nil)), ?_⟩
      show Run _ _ _ [.ow p (d D'), .sh (d (cx, cy)), .sh (d cx), .sh (d cy), .sh (d (cx - 1, cy - 1)), .sh (d (cx, cy - 1)), .sh (d (cx - 1, cy)), .sh (d (cx, cy)), .no, .sh (d e.1), .sh (d e.2)] _ _
      refine r_seq (r_dput (B := D') (q := e.1) (x := e.2) (i := 0) (p := p) rfl (es_hid (ex_var rfl)) (es_hid (ex_var rfl)) (by omega) ?_)
      refine r_dput (B := D'.put e.1 e.2) (q := e.2) (x := e.1) (i := 0) (p := p) rfl (es_hid (ex_var rfl)) (es_hid (ex_var rfl)) (by omega) ?_
      wtm_at "tf_less"
    · refine r_ret (es_hid ex_bool) ⟨d (turnB D (cx - 1, cy - 1) (cx - 1, cy) (cx, cy - 1) (cx, cy)), ?_, rfl, fun z => nomatch z⟩
      have et : turnP D (cx, cy) = some (turnB D (cx - 1, cy - 1) (cx - 1, cy) (cx, cy - 1) (cx, cy)) := by unfold turnP; rw [if_pos ⟨b1, b2⟩]
      exact ⟨by rw [et]; rfl, by unfold turned1; rw [et]; rfl⟩
  · have nb : ¬ (D.get (cx - 1, cy - 1) = some (cx, cy - 1) ∧ D.get (cx - 1, cy) = some (cx, cy)) := fun z => by
      rw [decide_eq_true z.1, decide_eq_true z.2] at hb
      cases hb
    refine r_if (b := decide (D.get (cx - 1, cy - 1) = some (cx - 1, cy)) && decide (D.get (cx, cy - 1) = some (cx, cy))) (et_and' (et_of' (ex_eqO (o := D.get (cx - 1, cy - 1)) (q := (cx - 1, cy)) (ex_dget1 (B := D) (q := (cx - 1, cy - 1)) (ex_var rfl) (ex_var rfl)) (ex_var rfl))) fun _ => et_of' (ex_eqO (o := D.get (cx, cy - 1)) (q := (cx, cy)) (ex_dget1 (B := D) (q := (cx, cy - 1)) (ex_var rfl) (ex_var rfl)) (ex_var rfl))) (fun hb2 => ?_) fun hb2 => ?_
    · rw [Bool.and_eq_true] at hb2
      have b1 := of_decide_eq_true hb2.1
      have b2 := of_decide_eq_true hb2.2
      refine r_asg (e := d ([((cx - 1, cy - 1), (cx, cy - 1)), ((cx - 1, cy), (cx, cy))] : List (Pt × Pt))) (es_hid (exN_lst (exs_cons (ex_pair (ex_var rfl) (ex_var rfl)) (exs_cons (ex_pair (ex_var rfl) (ex_var rfl)) exs_nil))).ex) ?_
      show Run _ _ _ [.ow p (d D), .sh (d (cx, cy)), .sh (d cx), .sh (d cy), .sh (d (cx - 1, cy - 1)), .sh (d (cx, cy - 1)), .sh (d (cx - 1, cy)), .sh (d (cx, cy)), .sh (d ([((cx - 1, cy - 1), (cx, cy - 1)), ((cx - 1, cy), (cx, cy))] : List (Pt × Pt))), .no, .no] _ _
      refine r_seq (r_forF (xs := [((cx - 1, cy - 1), (cx, cy - 1)), ((cx - 1, cy), (cx, cy))]) (fun D' => [.ow p (d D'), .sh (d (cx, cy)), .sh (d cx), .sh (d cy), .sh (d (cx - 1, cy - 1)), .sh (d (cx, cy - 1)), .sh (d (cx - 1, cy)), .sh (d (cx, cy)), .no, .no, .no]) (fun (D' : Dc Pt) (e : Pt × Pt) => putPair D' e.1 e.2) D (fun i D' => D'.l.length ≤ D.l.length + 2 * i) (ei_list' (ex_var (e := d ([((cx - 1, cy - 1), (cx, cy - 1)), ((cx - 1, cy), (cx, cy))] : List (Pt × Pt))) rfl)) (by wtm_at "tf_less") (Nat.le_refl _) (fun i e D' he _ hD' => ?_) fun _ => ?_)
      · have il := (List.getElem?_eq_some_iff.mp he).1
        have il' : i < 2 := il
        have h2 := putPair_len D' e.1 e.2
        have h3 := Dc.put_len D' e.1 e.2
        refine ⟨by omega, _, bd_tup (bds_cons bd_name (bds_cons bd_name bds_nil)), ?_⟩
        show Run _ _ _ [.ow p (d D'), .sh (d (cx, cy)), .sh (d cx), .sh (d cy), .sh (d (cx - 1, cy - 1)), .sh (d (cx, cy - 1)), .sh (d (cx - 1, cy)), .sh (d (cx, cy)), .no, .sh (d e.1), .sh (d e.2)] _ _
        refine r_seq (r_dput (B := D') (q := e.1) (x := e.2) (i := 0) (p := p) rfl (es_hid (ex_var rfl)) (es_hid (ex_var rfl)) (by omega) ?_)
        refine r_dput (B := D'.put e.1 e.2) (q := e.2) (x := e.1) (i := 0) (p := p) rfl (es_hid (ex_var rfl)) (es_hid (ex_var rfl)) (by omega) ?_
        wtm_at "tf_less"
      · refine r_ret (es_hid ex_bool) ⟨d (turnB D (cx - 1, cy - 1) (cx, cy - 1) (cx - 1, cy) (cx, cy)), ?_, rfl, fun z => nomatch z⟩
        have et : turnP D (cx, cy) = some (turnB D (cx - 1, cy - 1) (cx, cy - 1) (cx - 1, cy) (cx, cy)) := by unfold turnP; rw [if_neg nb, if_pos ⟨b1, b2⟩]
        exact ⟨by rw [et]; rfl, by unfold turned1; rw [et]; rfl⟩
    · have nb2 : ¬ (D.get (cx - 1, cy - 1) = some (cx - 1, cy) ∧ D.get (cx, cy - 1) = some (cx, cy)) := fun z => by
        rw [decide_eq_true z.1, decide_eq_true z.2] at hb2
        cases hb2
      have et : turnP D (cx, cy) = none := by unfold turnP; rw [if_neg nb, if_neg nb2]
      exact r_ret (es_hid ex_bool) ⟨d D, ⟨by rw [et]; rfl, by unfold turned1; rw [et]; rfl⟩, rfl, fun z => nomatch z⟩
def n__law_drawn_pairs : List Str := ["_law_pairs", "_law_number", "_law_many", "_law_found", "_law_k"]
theorem sc__law_drawn_pairs : FnScope n__law_drawn_pairs ["_law_pairs", "_law_number", "_law_many"] (defScope s__law_drawn_pairs) := ⟨rfl, rfl, rfl, by decide +kernel, rfl, by decide +kernel, by decide +kernel⟩
theorem ok__law_drawn_pairs {P : Program} {w : World} {K : PySem.W.Frag} {mg : Str → Option Value} {base : Heap} (Z : Top hfa hfn K mg) :
    ∃ fd, Fd P w K mg base CX0 2 "_law_drawn_pairs" (He.ga K "_law_drawn_pairs") fd ["_law_pairs", "_law_number", "_law_many"] (sp__law_drawn_pairs K) := by
  obtain ⟨fd, F⟩ := Z.def_ 31 (d := d__law_drawn_pairs) rfl
  obtain ⟨fd__law_turn, G__law_turn⟩ := ok__law_turn (P := P) (w := w) (base := base) Z
  obtain ⟨fd__law_mixed, G__law_mixed⟩ := ok__law_mixed (P := P) (w := w) (base := base) Z
  refine ⟨fd, FunD.ok F sc__law_drawn_pairs (fun vs H Q E h => lenN3 h) fun cdv A outer s H vs Q E hr h => ?_, Z.glo 23 (x := "_law_drawn_pairs") rfl, F.kp, FunD.bindsN F (ps := ["_law_pairs", "_law_number", "_law_many"]) fun _ _ _ _ _ _ us hl => match us, hl with | [_, _, _], _ => rfl⟩
  have hu0 := hr.units0
  have hu1 := hu_of hr
  have hu64 := hr.units
  have hu65 := hu65_of hr
  refine ⟨_, PSs.nox (pss_cons (ps_set (i := 3) sc__law_drawn_pairs.nd rfl (Or.inl rfl) (pe_callTy (call_dictT (Nat.lt_of_le_of_lt (Nat.add_le_add_left (Nat.le_of_ble_eq_true rfl) _) hu64)) (by rfl) (Z.free 76 (x := "dict") rfl) (by decide +kernel) (pa_cons (pv 0) pa_nil)))
      (pss_cons (ps_for PassesOwn.never rfl (pi_range1 (by rfl) (Z.free 84 (x := "range") rfl) (pa_cons (pv 2) pa_nil)) (pg_name (i := 4) sc__law_drawn_pairs.nd rfl (Or.inl rfl)) (pss_cons (ps_set (i := 1) sc__law_drawn_pairs.nd rfl (Or.inl rfl) (pe_fd G__law_mixed (hr.mono (by decide)) pass0 (pa_cons (pv 1) (pa_cons (pv 4) pa_nil))))
      (pss_one (ps_expr (pe_fd G__law_turn (hr.mono (by decide)) pass0 (pa_cons (pv 3) (pa_cons (pe_tup (pa_cons (pe_op op_mod (pv 1) pe_int) (pa_cons (pe_op op_mod (pe_op op_fdiv (pv 1) pe_int) pe_int) pa_nil))) pa_nil)))))))
      (pss_one (ps_ret (pv 3))))), ?_⟩
  clear hu0 hu1 hu64 hu65 hr F
  refine run_puN3 (K := K) 2 h rfl fun D n many pre => ?_
  obtain ⟨⟨cells, lay⟩, m0, m1⟩ := pre
  show Run _ _ _ [.sh (d D), .sh (d n), .sh (d many), .no, .no] _ _
  refine r_seq (r_ownD (i := 3) (B := D) (exN_dictC (ex_var rfl) lay.keys) fun p => ?_)
  show Run _ _ _ [.sh (d D), .sh (d n), .sh (d many), .ow p (d D), .no] _ _
  refine r_seq (r_forF (xs := rangeI 0 many.toNat) (fun s => [.sh (d D), .sh (d s.2), .sh (d many), .ow p (d s.1), .no]) drawStep (D, n) (fun i s => Lay cells s.1) (ei_range1' (ex_var rfl) ⟨by omega, m0⟩) (by wtm_at "tf_less") lay (fun i k s hk es_ hs => ?_) fun _ => ?_)
  · obtain ⟨D', n'⟩ := s
    have l1 : Lay cells D' := hs
    have ll := l1.len
    refine ⟨l1.turned1, _, bd_name, ?_⟩
    show Run _ _ _ [.sh (d D), .sh (d n'), .sh (d many), .ow p (d D'), .sh (d k)] _ _
    refine r_seq (r_asg (e := d (mixed n' k)) (es_hid (ex_call2 (f := mixed) (pre := fun _ _ => True) (ex_var rfl) (ex_var rfl) trivial)) ?_)
    show Run _ _ _ [.sh (d D), .sh (d (mixed n' k)), .sh (d many), .ow p (d D'), .sh (d k)] _ _
    refine r_dropM (em_callG0 (i := 3) (p := p) (e := d D') (es := [d (mixed n' k % 7, mixed n' k / 7 % 7)]) ((D', (mixed n' k % 7, mixed n' k / 7 % 7)) : Dc Pt × Pt) rfl (ea_cons' (ex_pair (ex_mod (ex_var rfl) ex_int (by decide)) (ex_mod (ex_fdiv (ex_var rfl) ex_int (by decide)) ex_int (by decide))) ea_nil') ⟨rfl, rfl, by show D'.l.length ≤ 1000; omega⟩ fun e' r hp => ?_) fun Γ' r hp => ?_
    · obtain ⟨rfl, rfl⟩ := hp
      exact ⟨flat_dc _, rfl⟩
    · obtain ⟨e', rfl, rfl, rfl⟩ := hp
      wtm_at "tf_less"
  · exact r_retO (i := 3) rfl ⟨rfl, fun _ => rfl⟩
def n__law_order : List Str := ["_law_place"]
theorem sc__law_order : FnScope n__law_order ["_law_place"] (defScope s__law_order) := ⟨rfl, rfl, rfl, by decide +kernel, rfl, by decide +kernel, by decide +kernel⟩
theorem ok__law_order {P : Program} {w : World} {K : PySem.W.Frag} {mg : Str → Option Value} {base : Heap} (Z : Top hfa hfn K mg) :
    ∃ fd, Fd P w K mg base CX0 1 "_law_order" (He.ga K "_law_order") fd ["_law_place"] (sp__law_order K) := by
  obtain ⟨fd, F⟩ := Z.def_ 33 (d := d__law_order) rfl
  refine ⟨fd, FunD.ok F sc__law_order (fun vs H Q E h => len1 h) fun cdv A outer s H vs Q E hr h => ?_, Z.glo 25 (x := "_law_order") rfl, F.kp, FunD.bindsN F (ps := ["_law_place"]) fun _ _ _ _ _ _ us hl => match us, hl with | [_], _ => rfl⟩
  have hu0 := hr.units0
  have hu1 := hu_of hr
  have hu64 := hr.units
  have hu65 := hu65_of hr
  refine ⟨_, PSs.nox (pss_one (ps_ret (pe_tup (pa_cons (pe_ixK K hu1 (pv 0) pe_int) (pa_cons (pe_ixK K hu1 (pv 0) pe_int) pa_nil))))), ?_⟩
  clear hu0 hu1 hu64 hu65 hr F
  refine run_pu1 (K := K) 0 h rfl fun p _ => ?_
  show Run _ _ _ [.sh (d p)] _ _
  exact r_ret (es_hid (ex_pair (x := p.2) (y := p.1) (ex_ix1 (ex_var rfl)) (ex_ix0 (ex_var rfl)))) ⟨rfl, fun z => nomatch z⟩
def n__law_first : List Str := ["_law_piece"]
theorem sc__law_first : FnScope n__law_first ["_law_piece"] (defScope s__law_first) := ⟨rfl, rfl, rfl, by decide +kernel, rfl, by decide +kernel, by decide +kernel⟩
def n__law_told : List Str := ["_law_pairs", "_law_found", "_law_cell"]
theorem sc__law_told : FnScope n__law_told ["_law_pairs"] (defScope s__law_told) := ⟨rfl, rfl, rfl, by decide +kernel, rfl, by decide +kernel, by decide +kernel⟩
theorem ok__law_told {P : Program} {w : World} {K : PySem.W.Frag} {mg : Str → Option Value} {base : Heap} (Z : Top hfa hfn K mg) :
    ∃ fd, Fd P w K mg base CX0 2 "_law_told" (He.ga K "_law_told") fd ["_law_pairs"] (sp__law_told K) := by
  obtain ⟨fd, F⟩ := Z.def_ 34 (d := d__law_told) rfl
  obtain ⟨fd__law_order, G__law_order⟩ := ok__law_order (P := P) (w := w) (base := base) Z
  obtain ⟨fd__law_first, F__law_first⟩ := Z.def_ 35 (d := d__law_first) rfl
  have b__law_first : Binds K fd__law_first ["_law_piece"] [] := FunD.bindsN F__law_first (ps := ["_law_piece"]) fun _ _ _ _ _ _ us hl => match us, hl with | [_], _ => rfl
  have g__law_first := Z.glo 27 (x := "_law_first") rfl
  obtain ⟨fd__law_order, F__law_order⟩ := Z.def_ 33 (d := d__law_order) rfl
  have b__law_order : Binds K fd__law_order ["_law_place"] [] := FunD.bindsN F__law_order (ps := ["_law_place"]) fun _ _ _ _ _ _ us hl => match us, hl with | [_], _ => rfl
  have g__law_order := Z.glo 25 (x := "_law_order") rfl
  refine ⟨fd, FunD.ok F sc__law_told (fun vs H Q E h => lenN1 h) fun cdv A outer s H vs Q E hr h => ?_, Z.glo 26 (x := "_law_told") rfl, F.kp, FunD.bindsN F (ps := ["_law_pairs"]) fun _ _ _ _ _ _ us hl => match us, hl with | [_], _ => rfl⟩
  have hu0 := hr.units0
  have hu1 := hu_of hr
  have hu64 := hr.units
  have hu65 := hu65_of hr
  refine ⟨_, PSs.nox (pss_cons (ps_lock (ps_setLc (i := 1) (own := [("_law_cell", 2)]) rfl sc__law_told.nd rfl rfl (sw_true rfl rfl rfl (by decide +kernel)) (pi_keys (pv 0)) (blkOk_by (own := [("_law_cell", 2)]) (N := n__law_told) (sc := defScope s__law_told) (by decide +kernel)) (fun _ _ _ _ _ => by exact (pg_name (i := 2) sc__law_told.nd rfl (Or.inl rfl))) (fun _ _ _ _ _ => by exact (pts_one (pt_cmp (pc_op (opK rLtU K (uop_lt hu0)) (pe_fd G__law_order (hr.mono (by decide)) pass0 (pa_cons (pv 2) pa_nil)) (pe_fd G__law_order (hr.mono (by decide)) pass0 (pa_cons (pe_ixK K hu1 (pv 0) (pv 2)) pa_nil)))))) (fun _ _ _ _ _ => by exact (pe_tup (pa_cons (pv 2) (pa_cons (pe_ixK K hu1 (pv 0) (pv 2)) pa_nil))))))
      (pss_one (ps_ret (pe_sortDef2 (T := tabs K) K (Z.free 85 (x := "sorted") rfl) (pa_cons (pv 1) pa_nil) hr F__law_first b__law_first sc__law_first g__law_first F__law_order b__law_order sc__law_order g__law_order F__law_order.kp rfl rfl rfl)))), ?_⟩
  clear hu0 hu1 hu64 hu65 hr F
  refine run_puN1 (K := K) 2 h rfl fun D pre => ?_
  obtain ⟨cells, lay⟩ := pre
  have ll := lay.len
  show Run _ _ _ [.sh (d D), .no, .no] _ _
  refine r_seq (r_lock (r_asg (e := d (pickP D)) (es_hid (ex_overD (i := 0) (D := D) (f := fun c => (c, oth D c)) (pr := fun c => HT.lexLt [c.2, c.1] [(oth D c).2, (oth D c).1]) (bs := fun x => [(2, d x)]) rfl (fun _ => bd_name) (fun _ => rfl) (fun F1 q od kvs σ' x hx s' fq rk => ?_) (by rw [Dc.keys_length]; omega))) ?_))
  · have lk : Lk F1 σ' 0 q od kvs D := ⟨s'.raw 0 _ rfl, fq, rk⟩
    have vx : Ev (tabs K) (tVar 2) σ' F1 x := (ex_var (T := tabs K) (e := d x) rfl).at s'
    have gx := lay.get hx
    exact ⟨et_of (ev_ltP (a := 0) (b := 0) (c := 0) (e := 0) (x := swapP x) (y := swapP (oth D x)) (ev_call1 (f := swapP) (pre := fun _ => True) vx trivial) (ev_call1 (f := swapP) (pre := fun _ => True) (ev_zget lk vx gx) trivial)), fun _ => ev_pair vx (ev_zget lk vx gx)⟩
  show Run _ _ _ [.sh (d D), .sh (d (pickP D)), .no] _ _
  exact r_ret (es_hidN (exN_sortQ (ex_var rfl))) ⟨rfl, fun _ => rfl⟩
def n__law_handed : List Str := ["_law_pairs", "_law_number", "_law_found", "_law_k", "_law_piece", "_law_some"]
theorem sc__law_handed : FnScope n__law_handed ["_law_pairs", "_law_number"] (defScope s__law_handed) := ⟨rfl, rfl, rfl, by decide +kernel, rfl, by decide +kernel, by decide +kernel⟩
theorem ok__law_handed {P : Program} {w : World} {K : PySem.W.Frag} {mg : Str → Option Value} {base : Heap} (Z : Top hfa hfn K mg) :
    ∃ fd, Fd P w K mg base CX0 3 "_law_handed" (He.ga K "_law_handed") fd ["_law_pairs", "_law_number"] (sp__law_handed K) := by
  obtain ⟨fd, F⟩ := Z.def_ 36 (d := d__law_handed) rfl
  obtain ⟨fd__law_told, G__law_told⟩ := ok__law_told (P := P) (w := w) (base := base) Z
  obtain ⟨fd__law_mixed, G__law_mixed⟩ := ok__law_mixed (P := P) (w := w) (base := base) Z
  refine ⟨fd, FunD.ok F sc__law_handed (fun vs H Q E h => lenN2 h) fun cdv A outer s H vs Q E hr h => ?_, Z.glo 28 (x := "_law_handed") rfl, F.kp, FunD.bindsN F (ps := ["_law_pairs", "_law_number"]) fun _ _ _ _ _ _ us hl => match us, hl with | [_, _], _ => rfl⟩
  have hu0 := hr.units0
  have hu1 := hu_of hr
  have hu64 := hr.units
  have hu65 := hu65_of hr
  refine ⟨_, PSs.nox (pss_cons (ps_set (i := 2) sc__law_handed.nd rfl (Or.inl rfl) (pe_lst pa_nil))
      (pss_cons (ps_for PassesOwn.never rfl (pi_enumK K (by rfl) (Z.free 77 (x := "enumerate") rfl) (pa_cons (pe_fd G__law_told (hr.mono (by decide)) pass0 (pa_cons (pv 0) pa_nil)) pa_nil)) (pg_tupK K (n := 2) rfl (pgs_cons (pg_name (i := 3) sc__law_handed.nd rfl (Or.inl rfl)) (pgs_cons (pg_name (i := 4) sc__law_handed.nd rfl (Or.inl rfl)) pgs_nil))) (pss_cons (ps_set (i := 5) sc__law_handed.nd rfl (Or.inl rfl) (pe_ixK K hu1 (pe_lst (pa_cons (pv 4) (pa_cons (pe_tup (pa_cons (pe_ixK K hu1 (pv 4) pe_int) (pa_cons (pe_ixK K hu1 (pv 4) pe_int) pa_nil))) pa_nil))) (pe_op op_mod (pe_op op_fdiv (pe_fd G__law_mixed (hr.mono (by decide)) pass0 (pa_cons (pv 1) (pa_cons (pv 3) pa_nil))) pe_int) pe_int)))
      (pss_one (ps_expr (pe_bmK K PySem.F.plainAttrs_list PySem.F.slot_list_insert PySem.F.type_list_insert mt_insert (pv 2) (pa_cons (pe_op op_mod (pe_op op_fdiv (pe_fd G__law_mixed (hr.mono (by decide)) pass0 (pa_cons (pv 1) (pa_cons (pv 3) pa_nil))) pe_int) (pe_op uop_add (pe_callB (crK rLenU K ucall_len) (by rfl) (Z.free 80 (x := "len") rfl) (by decide +kernel) (pa_cons (pv 2) pa_nil)) pe_int)) (pa_cons (pv 5) pa_nil)))))))
      (pss_one (ps_ret (pv 2))))), ?_⟩
  clear hu0 hu1 hu64 hu65 hr F
  refine run_puN2 (K := K) 4 h rfl fun D n pre => ?_
  obtain ⟨cells, lay⟩ := pre
  have tl := told_len lay
  show Run _ _ _ [.sh (d D), .sh (d n), .no, .no, .no, .no] _ _
  refine r_seq (r_ownL (i := 2) (exN_nil Pc) fun p => ?_)
  show Run _ _ _ [.sh (d D), .sh (d n), .ow p (d ([] : List Pc)), .no, .no, .no] _ _
  refine r_seq (r_forF (xs := enumI (toldP D)) (fun a => [.sh (d D), .sh (d n), .ow p (d a), .no, .no, .no]) (handStep n) ([] : List Pc) (fun i a => a.length = i) (ei_enumL' (exN_call1 (f := toldP) (pre := fun D => ∃ cells, Lay cells D) (ex_var rfl) ⟨cells, lay⟩).ex) (by wtm_at "tf_less") rfl (fun i e a he _ ha => ?_) fun _ => ?_)
  · have il := (List.getElem?_eq_some_iff.mp he).1
    rw [enumI_length] at il
    have ha' : a.length = i := ha
    obtain ⟨k, c⟩ := e
    have m0 := Int.emod_nonneg (mixed n k / 14) (show (a.length : Int) + 1 ≠ 0 by omega)
    have m1 := Int.emod_lt_of_pos (mixed n k / 14) (show (0 : Int) < (a.length : Int) + 1 by omega)
    have q0 := Int.emod_nonneg (mixed n k / 7) (show (2 : Int) ≠ 0 by decide)
    have q1 := Int.emod_lt_of_pos (mixed n k / 7) (show (0 : Int) < 2 by decide)
    refine ⟨?_, _, bd_tup (bds_cons bd_name (bds_cons bd_name bds_nil)), ?_⟩
    · unfold handStep
      simp only [List.length_append, List.length_take, List.length_drop, List.length_singleton]
      omega
    show Run _ _ _ [.sh (d D), .sh (d n), .ow p (d a), .sh (d k), .sh (d c), .no] _ _
    refine r_seq (r_asg (e := d (if mixed n k / 7 % 2 = 0 then c else (c.2, c.1))) (es_hid (ex_eq (ex_ixG (xs := [c, (c.2, c.1)]) (i := mixed n k / 7 % 2) (exN_lst (exs_cons (ex_var rfl) (exs_cons (ex_pair (ex_ix1 (x := c) (ex_var rfl)) (ex_ix0 (x := c) (ex_var rfl))) exs_nil))).ex (ex_mod (ex_fdiv (ex_call2 (f := mixed) (pre := fun _ _ => True) (ex_var rfl) (ex_var rfl) trivial) ex_int (by decide)) ex_int (by decide)) inferInstance ⟨q0, by show _ < 2; omega⟩) ?_)) ?_)
    · by_cases z : mixed n k / 7 % 2 = 0
      · rw [if_pos z, z]
        rfl
      · have z1 : mixed n k / 7 % 2 = 1 := by omega
        rw [if_neg z, z1]
        rfl
    show Run _ _ _ [.sh (d D), .sh (d n), .ow p (d a), .sh (d k), .sh (d c), .sh (d (if mixed n k / 7 % 2 = 0 then c else (c.2, c.1)))] _ _
    refine r_ins (j := 2) (p := p) (xs := a) (x := if mixed n k / 7 % 2 = 0 then c else (c.2, c.1)) (i := mixed n k / 14 % ((a.length : Int) + 1)) rfl (es_see (ex_mod (ex_fdiv (ex_call2 (f := mixed) (pre := fun _ _ => True) (ex_var rfl) (ex_var rfl) trivial) ex_int (by decide)) (ex_add (ex_len (ex_var rfl)) ex_int) (by omega)) rfl) (es_hid (ex_var rfl)) (by omega) ⟨m0, by omega⟩ ?_
    wtm_at "tf_less"
  · exact r_retO (i := 2) rfl ⟨rfl, fun _ => rfl⟩
def n__law_step : List Str := ["_law_pairs", "_law_corner", "_law_way", "_law_x", "_law_y", "_law_left", "_law_right", "_law_dark", "_law_step_here"]
theorem sc__law_step : FnScope n__law_step ["_law_pairs", "_law_corner", "_law_way"] (defScope s__law_step) := ⟨rfl, rfl, rfl, by decide +kernel, rfl, by decide +kernel, by decide +kernel⟩
theorem ok__law_step {P : Program} {w : World} {K : PySem.W.Frag} {mg : Str → Option Value} {base : Heap} (Z : Top hfa hfn K mg) :
    ∃ fd, Fd P w K mg base CX0 1 "_law_step" (He.ga K "_law_step") fd ["_law_pairs", "_law_corner", "_law_way"] (sp__law_step K) := by
  obtain ⟨fd, F⟩ := Z.def_ 37 (d := d__law_step) rfl
  refine ⟨fd, FunD.ok F sc__law_step (fun vs H Q E h => len3 h) fun cdv A outer s H vs Q E hr h => ?_, Z.glo 29 (x := "_law_step") rfl, F.kp, FunD.bindsN F (ps := ["_law_pairs", "_law_corner", "_law_way"]) fun _ _ _ _ _ _ us hl => match us, hl with | [_, _, _], _ => rfl⟩
  have hu0 := hr.units0
  have hu1 := hu_of hr
  have hu64 := hr.units
  have hu65 := hu65_of hr
  refine ⟨_, PSs.nox (pss_cons (ps_asg (pv 1) (pg_tupK K (n := 2) rfl (pgs_cons (pg_name (i := 3) sc__law_step.nd rfl (Or.inl rfl)) (pgs_cons (pg_name (i := 4) sc__law_step.nd rfl (Or.inl rfl)) pgs_nil))))
      (pss_cons (ps_asg (pe_ixK K hu1 (pe_dispT hu1 (pps_cons (pe_tup (pa_cons pe_int (pa_cons pe_int pa_nil))) (pe_tup (pa_cons (pe_tup (pa_cons (pv 3) (pa_cons (pe_op op_sub (pv 4) pe_int) pa_nil))) (pa_cons (pe_tup (pa_cons (pv 3) (pa_cons (pv 4) pa_nil))) pa_nil))) (pps_cons (pe_tup (pa_cons pe_int (pa_cons pe_int pa_nil))) (pe_tup (pa_cons (pe_tup (pa_cons (pv 3) (pa_cons (pv 4) pa_nil))) (pa_cons (pe_tup (pa_cons (pe_op op_sub (pv 3) pe_int) (pa_cons (pv 4) pa_nil))) pa_nil))) (pps_cons (pe_tup (pa_cons (pe_un un_neg pe_int) (pa_cons pe_int pa_nil))) (pe_tup (pa_cons (pe_tup (pa_cons (pe_op op_sub (pv 3) pe_int) (pa_cons (pv 4) pa_nil))) (pa_cons (pe_tup (pa_cons (pe_op op_sub (pv 3) pe_int) (pa_cons (pe_op op_sub (pv 4) pe_int) pa_nil))) pa_nil))) (pps_cons (pe_tup (pa_cons pe_int (pa_cons (pe_un un_neg pe_int) pa_nil))) (pe_tup (pa_cons (pe_tup (pa_cons (pe_op op_sub (pv 3) pe_int) (pa_cons (pe_op op_sub (pv 4) pe_int) pa_nil))) (pa_cons (pe_tup (pa_cons (pv 3) (pa_cons (pe_op op_sub (pv 4) pe_int) pa_nil))) pa_nil))) pps_nil))))) (pv 2)) (pg_tupK K (n := 2) rfl (pgs_cons (pg_name (i := 5) sc__law_step.nd rfl (Or.inl rfl)) (pgs_cons (pg_name (i := 6) sc__law_step.nd rfl (Or.inl rfl)) pgs_nil))))
      (pss_cons (ps_if (PW.pt (pw_and (pt_cmp (pc_notinK K hu65 (pv 5) (pv 0))) (pw_and1 (pt_cmp (pc_notinK K hu65 (pv 6) (pv 0)))))) (pss_one (ps_ret pe_non)) pss_nil)
      (pss_cons (ps_set (i := 7) sc__law_step.nd rfl (Or.inl rfl) (pe_ifExp (pt_cmp (pc_inK K hu65 (pv 5) (pv 0))) (pe_cmp (pc_op (opK rEqD K (op_eqD hu64)) (pe_op op_mod (pe_callB (crK rSumU K (ucall_sum rfl)) (by rfl) (Z.free 87 (x := "sum") rfl) (by decide +kernel) (pa_cons (pv 5) pa_nil)) pe_int) pe_int)) (pe_cmp (pc_op (opK rEqD K (op_eqD hu64)) (pe_op op_mod (pe_callB (crK rSumU K (ucall_sum rfl)) (by rfl) (Z.free 87 (x := "sum") rfl) (by decide +kernel) (pa_cons (pv 6) pa_nil)) pe_int) pe_int))))
      (pss_cons (ps_set (i := 8) sc__law_step.nd rfl (Or.inl rfl) (pe_ifExp (pt_trK K (pv 7)) pe_int (pe_un un_neg pe_int)))
      (pss_one (ps_ret (pe_ifExp (PW.pt (pw_and (pt_cmp (pc_inK K hu65 (pv 5) (pv 0))) (pw_and1 (pt_cmp (pc_op (opK rEqD K (op_eqD hu64)) (pe_ixK K hu1 (pv 0) (pv 5)) (pv 6)))))) (pe_op uop_mul (pe_un un_neg pe_int) (pv 8)) (pv 8))))))))), ?_⟩
  clear hu0 hu1 hu64 hu65 hr F
  refine run_pu3 (K := K) 6 h rfl fun D c w pre => ?_
  obtain ⟨cx, cy⟩ := c
  show Run _ _ _ [.sh (d D), .sh (d (cx, cy)), .sh (d w), .no, .no, .no, .no, .no, .no] _ _
  refine r_seq (r_asgT (e := d (cx, cy)) (es_hid (ex_var rfl)) (bd_tup (bds_cons bd_name (bds_cons bd_name bds_nil))) ?_)
  show Run _ _ _ [.sh (d D), .sh (d (cx, cy)), .sh (d w), .sh (d cx), .sh (d cy), .no, .no, .no, .no] _ _
  refine r_seq (r_asgT (e := d (sideAt (cx, cy) w)) (es_hid (ex_dGetG (D := sidesD (cx, cy)) (k := w) (exN_disp (l := sidesL (cx, cy)) ?_ (Nat.le_of_ble_eq_true rfl)).ex (ex_var rfl) inferInstance (side_some pre))) (bd_tup (bds_cons bd_name (bds_cons bd_name bds_nil))) ?_)
  · exact .cons (ex_pair (x := (1 : Int)) (y := (0 : Int)) ex_int ex_int) (ex_pair (x := (cx, cy - 1)) (y := (cx, cy)) (ex_pair (ex_var rfl) (ex_sub (ex_var rfl) ex_int)) (ex_pair (ex_var rfl) (ex_var rfl)))
      (.cons (ex_pair (x := (0 : Int)) (y := (1 : Int)) ex_int ex_int) (ex_pair (x := (cx, cy)) (y := (cx - 1, cy)) (ex_pair (ex_var rfl) (ex_var rfl)) (ex_pair (ex_sub (ex_var rfl) ex_int) (ex_var rfl)))
      (.cons (ex_pair (x := (-1 : Int)) (y := (0 : Int)) (ex_neg ex_int) ex_int) (ex_pair (x := (cx - 1, cy)) (y := (cx - 1, cy - 1)) (ex_pair (ex_sub (ex_var rfl) ex_int) (ex_var rfl)) (ex_pair (ex_sub (ex_var rfl) ex_int) (ex_sub (ex_var rfl) ex_int)))
      (.cons (ex_pair (x := (0 : Int)) (y := (-1 : Int)) ex_int (ex_neg ex_int)) (ex_pair (x := (cx - 1, cy - 1)) (y := (cx, cy - 1)) (ex_pair (ex_sub (ex_var rfl) ex_int) (ex_sub (ex_var rfl) ex_int)) (ex_pair (ex_var rfl) (ex_sub (ex_var rfl) ex_int))) .nil)))
  have es : lawStep D (cx, cy) w = stepLR D (sideAt (cx, cy) w).1 (sideAt (cx, cy) w).2 := rfl
  rw [es]
  generalize sideAt (cx, cy) w = lr
  obtain ⟨l, r⟩ := lr
  show Run _ _ _ [.sh (d D), .sh (d (cx, cy)), .sh (d w), .sh (d cx), .sh (d cy), .sh (d l), .sh (d r), .no, .no] _ _
  refine r_seq (r_if (b := !(D.get l).isSome && !(D.get r).isSome) (et_and' (et_of' (ex_notinD (D := D) (x := l) (ex_var rfl) (ex_var rfl))) fun _ => et_of' (ex_notinD (D := D) (x := r) (ex_var rfl) (ex_var rfl))) (fun hb => ?_) fun hb => r_next ?_)
  · refine r_ret (es_hid (ex_none (T := tabs K))) ⟨?_, fun z => nomatch z⟩
    unfold stepLR
    rw [if_pos hb]
    rfl
  refine r_seq (r_asg (e := d (if (D.get l).isSome = true then decide ((l.1 + l.2) % 2 = 0) else decide ((r.1 + r.2) % 2 = 1))) (es_hid (ex_ifT (b := (D.get l).isSome) (et_of' (ex_inD (D := D) (x := l) (ex_var rfl) (ex_var rfl))) (fun _ => ex_eqI (ex_mod (ex_sumP (ex_var rfl)) ex_int (by decide)) ex_int) fun _ => ex_eqI (ex_mod (ex_sumP (ex_var rfl)) ex_int (by decide)) ex_int)) ?_)
  generalize hd : (if (D.get l).isSome = true then decide ((l.1 + l.2) % 2 = 0) else decide ((r.1 + r.2) % 2 = 1)) = dark
  refine r_seq (r_asg (e := d (if dark = true then (1 : Int) else -1)) (es_hid (ex_ifT (b := dark) (et_tr' (ex_var rfl)) (fun _ => ex_int) fun _ => ex_neg ex_int)) ?_)
  generalize hs : (if dark = true then (1 : Int) else -1) = s
  show Run _ _ _ [.sh (d D), .sh (d (cx, cy)), .sh (d w), .sh (d cx), .sh (d cy), .sh (d l), .sh (d r), .sh (d dark), .sh (d s)] _ _
  have s1 : s = 1 ∨ s = -1 := by subst hs; split <;> omega
  refine r_ret (e := d (if ((D.get l).isSome && decide (D.get l = some r)) = true then -3 * s else s)) (es_hid (ex_ifT (b := (D.get l).isSome && decide (D.get l = some r)) (et_and' (a := (D.get l).isSome) (b := decide (D.get l = some r)) (et_of' (ex_inD (D := D) (x := l) (ex_var rfl) (ex_var rfl))) fun hl => et_of' (ex_eq (ex_eqP (x := oth D l) (y := r) (ex_dGetG (D := D) (k := l) (ex_var rfl) (ex_var rfl) inferInstance hl) (ex_var rfl)) ?_)) (fun _ => ex_mul (ex_neg ex_int) (ex_var rfl) ?_) fun _ => ex_var rfl)) ⟨?_, fun z => nomatch z⟩
  · rw [get_oth hl]
    exact congrArg d (decide_eq_decide.mpr ⟨fun z => congrArg some z, fun z => Option.some.inj z⟩)
  · exact .inl ⟨by decide, by decide⟩
  · unfold stepLR
    rw [if_neg (by rw [hb]; decide)]
    simp only [hd, hs]
    rfl
def n__law_numbers : List Str := ["_law_pairs", "_law_start", "_law_numbers_here", "_law_waiting", "_law_corner", "_law_way", "_law_other", "_law_step_here"]
theorem sc__law_numbers : FnScope n__law_numbers ["_law_pairs"] (defScope s__law_numbers) := ⟨rfl, rfl, rfl, by decide +kernel, rfl, by decide +kernel, by decide +kernel⟩
theorem ok__law_numbers {P : Program} {w : World} {K : PySem.W.Frag} {mg : Str → Option Value} {base : Heap} (Z : Top hfa hfn K mg) :
    ∃ fd, Fd P w K mg base CX0 2 "_law_numbers" (He.ga K "_law_numbers") fd ["_law_pairs"] (sp__law_numbers K) := by
  obtain ⟨fd, F⟩ := Z.def_ 38 (d := d__law_numbers) rfl
  obtain ⟨fd__law_step, G__law_step⟩ := ok__law_step (P := P) (w := w) (base := base) Z
  obtain ⟨fd__law_order, F__law_order⟩ := Z.def_ 33 (d := d__law_order) rfl
  have b__law_order : Binds K fd__law_order ["_law_place"] [] := FunD.bindsN F__law_order (ps := ["_law_place"]) fun _ _ _ _ _ _ us hl => match us, hl with | [_], _ => rfl
  have g__law_order := Z.glo 25 (x := "_law_order") rfl
  refine ⟨fd, FunD.ok F sc__law_numbers (fun vs H Q E h => lenN1 h) fun cdv A outer s H vs Q E hr h => ?_, Z.glo 30 (x := "_law_numbers") rfl, F.kp, FunD.bindsN F (ps := ["_law_pairs"]) fun _ _ _ _ _ _ us hl => match us, hl with | [_], _ => rfl⟩
  have hu0 := hr.units0
  have hu1 := hu_of hr
  have hu64 := hr.units
  have hu65 := hu65_of hr
  refine ⟨_, PSs.nox (pss_cons (ps_set (i := 1) sc__law_numbers.nd rfl (Or.inl rfl) (pe_ixK K hu1 (pe_sortDef (T := tabs K) K (Z.free 85 (x := "sorted") rfl) (pa_cons (pe_callTy (crK rListV K (ucall_listV rfl)) (by rfl) (Z.free 81 (x := "list") rfl) (by decide +kernel) (pa_cons (pv 0) pa_nil)) pa_nil) hr F__law_order b__law_order sc__law_order g__law_order rfl) pe_int))
      (pss_cons (ps_set (i := 2) sc__law_numbers.nd rfl (Or.inl rfl) (pe_dispT hu1 (pps_cons (pv 1) pe_int pps_nil)))
      (pss_cons (ps_set (i := 3) sc__law_numbers.nd rfl (Or.inl rfl) (pe_lst (pa_cons (pv 1) pa_nil)))
      (pss_cons (ps_while PassesOwn.never (pt_cmp (pc_op (opK rNeD K (op_neD hu64)) (pv 3) (pe_lst pa_nil))) (pss_cons (ps_set (i := 4) sc__law_numbers.nd rfl (Or.inl rfl) (pe_bm0K K PySem.F.plainAttrs_list PySem.F.slot_list_pop PySem.F.type_list_pop mt_pop (pv 3)))
      (pss_one (ps_for PassesOwn.never rfl (pi_anyK K (pe_lst (pa_cons (pe_tup (pa_cons pe_int (pa_cons pe_int pa_nil))) (pa_cons (pe_tup (pa_cons pe_int (pa_cons pe_int pa_nil))) (pa_cons (pe_tup (pa_cons (pe_un un_neg pe_int) (pa_cons pe_int pa_nil))) (pa_cons (pe_tup (pa_cons pe_int (pa_cons (pe_un un_neg pe_int) pa_nil))) pa_nil)))))) (pg_name (i := 5) sc__law_numbers.nd rfl (Or.inl rfl)) (pss_cons (ps_set (i := 6) sc__law_numbers.nd rfl (Or.inl rfl) (pe_tup (pa_cons (pe_op uop_add (pe_ixK K hu1 (pv 4) pe_int) (pe_ixK K hu1 (pv 5) pe_int)) (pa_cons (pe_op uop_add (pe_ixK K hu1 (pv 4) pe_int) (pe_ixK K hu1 (pv 5) pe_int)) pa_nil))))
      (pss_cons (ps_set (i := 7) sc__law_numbers.nd rfl (Or.inl rfl) (pe_fd G__law_step (hr.mono (by decide)) pass0 (pa_cons (pv 0) (pa_cons (pv 4) (pa_cons (pv 5) pa_nil)))))
      (pss_one (ps_if (PW.pt (pw_and (pt_cmp (pc_op uop_isnot (pv 7) pe_non)) (pw_and1 (pt_cmp (pc_notinK K hu65 (pv 6) (pv 2)))))) (pss_cons (ps_dput hu1 (pv 2) (pv 6) (pe_op uop_add (pe_ixK K hu1 (pv 2) (pv 4)) (pv 7)) rfl)
      (pss_one (ps_expr (pe_bmK K PySem.F.plainAttrs_list PySem.F.slot_list_append PySem.F.type_list_append mt_append (pv 3) (pa_cons (pv 6) pa_nil))))) pss_nil))))))))
      (pss_one (ps_ret (pv 2))))))), ?_⟩
  clear hu0 hu1 hu64 hu65 hr F
  refine run_puN1 (K := K) 7 h rfl fun D pre => ?_
  obtain ⟨cells, L⟩ := pre
  obtain ⟨hh, P⟩ := L.pot
  have nbok := lawNb_ok L.lay.full P
  have sm := L.lay.sm
  have fm := fst_mem L.ne
  have ae : wAll (lawNb D) (fstOf cells) = lawNums D := by unfold lawNums; rw [L.fst]; rfl
  show Run _ _ _ [.sh (d D), .no, .no, .no, .no, .no, .no, .no] _ _
  refine r_seq (r_asg (e := d (fstOf cells)) (es_hid (ex_eq (ex_ixG (xs := inOrder D.keys) (i := 0) (exN_sortP (ps := D.keys) (ex_keysV (D := D) (ex_var rfl))).ex ex_int inferInstance ⟨by decide, ?_⟩) ?_)) ?_)
  · rw [L.fst]
    exact List.length_pos_iff.mpr L.ne
  · rw [L.fst]
    unfold fstOf
    cases cells <;> rfl
  generalize fstOf cells = s at fm ae ⊢
  refine r_seq (r_ownD (i := 2) (B := (⟨[(s, 0)]⟩ : Dc Int)) (exN_eq (exN_disp (l := [(s, (0 : Int))]) (.cons (ex_var rfl) ex_int .nil) (Nat.le_of_ble_eq_true rfl)) rfl) fun p2 => ?_)
  refine r_seq (r_ownL (i := 3) (exN_lst (exs_cons (x := s) (ex_var rfl) exs_nil) (Nat.le_of_ble_eq_true rfl)) fun p3 => ?_)
  show Run _ _ _ [.sh (d D), .sh (d s), .ow p2 (d (⟨[(s, 0)]⟩ : Dc Int)), .ow p3 (d ([s] : List Pt)), .no, .no, .no, .no] _ _
  refine r_seq (r_while (τ := Nat × Dc Int × List Pt) (fun g => [.sh (d D), .sh (d s), .ow p2 (d g.2.1), .ow p3 (d g.2.2), .no, .no, .no, .no]) (Going (lawNb D) cells hh s) (fun g => g.1) (fun g => !decide (g.2.2 = [])) (400, wStart s) (by wtm_at "tf_less") (going_start nbok sm fm)
    (fun g G => et_of' (ex_neG (x := g.2.2) (y := []) (ex_var rfl) (ex_nil Pt) inferInstance inferInstance (by decide))) (fun g G hb => ?_) fun g G hb => ?_)
  · obtain ⟨k, N, W⟩ := g
    obtain ⟨W', here, e⟩ : ∃ W' here, W = W' ++ [here] := by
      rcases List.eq_nil_or_concat W with z | ⟨a, b, z⟩
      · subst z; cases hb
      · exact ⟨a, b, by rw [z, List.concat_eq_append]⟩
    subst e
    have hm := (G.w.wk here (by simp) : (N.get here).isSome = true)
    obtain ⟨l1, l2⟩ := G.len sm
    rw [List.length_append, List.length_singleton] at l2
    obtain ⟨j, rfl, G'⟩ := going_turn nbok G
    rw [← law_fold] at G'
    show Run _ _ _ [.sh (d D), .sh (d s), .ow p2 (d N), .ow p3 (d (W' ++ [here])), .no, .no, .no, .no] _ _
    refine r_seq (r_pop (i := 3) (j := 4) (p := p3) (xs := W') (x := here) rfl rfl ?_)
    show Run _ _ _ [.sh (d D), .sh (d s), .ow p2 (d N), .ow p3 (d W'), .sh (d here), .no, .no, .no] _ _
    refine r_forF (xs := lawWays) (fun (g : Dc Int × List Pt) => [.sh (d D), .sh (d s), .ow p2 (d g.1), .ow p3 (d g.2), .sh (d here), .no, .no, .no]) (lawVis D here) (N, W') (fun i g => (g.1.get here).isSome = true ∧ g.1.l.length ≤ N.l.length + i ∧ g.2.length ≤ W'.length + i)
      (ei_list' (exN_lst (exs_cons (x := ((1, 0) : Pt)) (ex_pair (x := (1 : Int)) (y := (0 : Int)) ex_int ex_int) (exs_cons (x := ((0, 1) : Pt)) (ex_pair (x := (0 : Int)) (y := (1 : Int)) ex_int ex_int) (exs_cons (x := ((-1, 0) : Pt)) (ex_pair (x := (-1 : Int)) (y := (0 : Int)) (ex_neg ex_int) ex_int) (exs_cons (x := ((0, -1) : Pt)) (ex_pair (x := (0 : Int)) (y := (-1 : Int)) ex_int (ex_neg ex_int)) exs_nil)))) (Nat.le_of_ble_eq_true rfl)).ex) (by wtm_at "tf_less") ⟨hm, Nat.le_refl _, Nat.le_refl _⟩ (fun i w g hw _ hI => ?_) fun _ => ?_
    · obtain ⟨N1, W1⟩ := g
      obtain ⟨i1, i2, i3⟩ := hI
      have i1' : (N1.get here).isSome = true := i1
      have il := (List.getElem?_eq_some_iff.mp hw).1
      have il' : i < 4 := il
      have i2' : N1.l.length ≤ N.l.length + i := i2
      have i3' : W1.length ≤ W'.length + i := i3
      have wm := List.mem_of_getElem? hw
      obtain ⟨cx, cy⟩ := here
      obtain ⟨wx, wy⟩ := w
      refine ⟨?_, _, bd_name, ?_⟩
      · unfold lawVis
        cases lawStep D (cx, cy) (wx, wy) with
        | none => exact ⟨i1, by show N1.l.length ≤ _; omega, by show W1.length ≤ _; omega⟩
        | some st =>
          have wl := wVisit_len (cx, cy) (N1, W1) (wayTo (cx, cy) (wx, wy), st)
          simp only at wl
          exact ⟨wVisit_old i1, by show (wVisit (cx, cy) (N1, W1) (wayTo (cx, cy) (wx, wy), st)).1.l.length ≤ _; omega, by show (wVisit (cx, cy) (N1, W1) (wayTo (cx, cy) (wx, wy), st)).2.length ≤ _; omega⟩
      show Run _ _ _ [.sh (d D), .sh (d s), .ow p2 (d N1), .ow p3 (d W1), .sh (d (cx, cy)), .sh (d (wx, wy)), .no, .no] _ _
      refine r_seq (r_asg (e := d (wayTo (cx, cy) (wx, wy))) (es_hid (ex_pair (x := cx + wx) (y := cy + wy) (ex_add (ex_ix0 (x := (cx, cy)) (ex_var rfl)) (ex_ix0 (x := (wx, wy)) (ex_var rfl))) (ex_add (ex_ix1 (x := (cx, cy)) (ex_var rfl)) (ex_ix1 (x := (wx, wy)) (ex_var rfl))))) ?_)
      refine r_seq (r_asg (e := d (lawStep D (cx, cy) (wx, wy))) (es_hid (ex_call3 (f := lawStep) (pre := fun _ _ w => w ∈ lawWays) (x := D) (y := (cx, cy)) (z := (wx, wy)) (ex_var rfl) (ex_var rfl) (ex_var rfl) wm)) ?_)
      have ve : lawVis D (cx, cy) (N1, W1) (wx, wy) = match lawStep D (cx, cy) (wx, wy) with | none => (N1, W1) | some s => wVisit (cx, cy) (N1, W1) (wayTo (cx, cy) (wx, wy), s) := rfl
      rw [ve]
      generalize lawStep D (cx, cy) (wx, wy) = o
      generalize wayTo (cx, cy) (wx, wy) = q
      show Run _ _ _ [.sh (d D), .sh (d s), .ow p2 (d N1), .ow p3 (d W1), .sh (d (cx, cy)), .sh (d (wx, wy)), .sh (d q), .sh (d o)] _ _
      cases o with
      | none =>
        refine r_if (b := false) (et_eq (et_and' (a := false) (b := true) (et_of' (ex_isN (x := (none : Option Int)) (ex_var rfl) true ⟨fun _ => rfl, fun _ => rfl⟩)) fun z => nomatch z) rfl) (fun hb => nomatch hb) fun _ => r_next ?_
        wtm_at "tf_less"
      | some st =>
        refine r_if (b := !(N1.get q).isSome) (et_eq (et_and' (a := true) (b := !(N1.get q).isSome) (et_of' (ex_isN (x := st) (ex_var rfl) false ⟨fun z => (nomatch z), fun z => (nomatch z)⟩)) fun _ => et_of' (ex_notinD (D := N1) (x := q) (ex_var rfl) (ex_var rfl))) (Bool.true_and _)) (fun hb => ?_) fun hb => r_next ?_
        · have nq : ¬ (N1.get q).isSome = true := fun z => by rw [z] at hb; cases hb
          have we : wVisit (cx, cy) (N1, W1) (q, st) = (N1.put q ((N1.get (cx, cy)).getD default + st), W1 ++ [q]) := if_neg nq
          show Run _ _ _ _ _ (turnR (fun Γ' => LessL Γ' [.sh (d D), .sh (d s), .ow p2 (d (wVisit (cx, cy) (N1, W1) (q, st)).1), .ow p3 (d (wVisit (cx, cy) (N1, W1) (q, st)).2), .sh (d (cx, cy)), .no, .no, .no]) _)
          rw [we]
          refine r_seq (r_dput (B := N1) (q := q) (x := (N1.get (cx, cy)).getD default + st) (i := 2) (p := p2) rfl (es_imm (ex_add (ex_dGetG (D := N1) (k := (cx, cy)) (ex_var rfl) (ex_var rfl) inferInstance i1') (ex_var rfl))) (es_hid (ex_var rfl)) (by omega) ?_)
          refine r_app (i := 3) (p := p3) (xs := W1) (x := q) rfl (es_hid (ex_var rfl)) (by omega) ?_
          wtm_at "tf_less"
        · have yq : (N1.get q).isSome = true := by
            cases z : (N1.get q).isSome with
            | true => rfl
            | false => rw [z] at hb; cases hb
          have we : wVisit (cx, cy) (N1, W1) (q, st) = (N1, W1) := if_pos yq
          show LessL _ [.sh (d D), .sh (d s), .ow p2 (d (wVisit (cx, cy) (N1, W1) (q, st)).1), .ow p3 (d (wVisit (cx, cy) (N1, W1) (q, st)).2), .sh (d (cx, cy)), .no, .no, .no]
          rw [we]
          wtm_at "tf_less"
    · refine ⟨(j, lawWays.foldl (lawVis D here) (N, W')), G', Nat.lt_succ_self _, ?_⟩
      wtm_at "tf_less"
  · obtain ⟨k, N, W⟩ := g
    have e : W = [] := by
      have hb' : (!decide (W = [])) = false := hb
      simpa using hb'
    subst e
    have ed := going_done G
    rw [ae] at ed
    refine r_retO (i := 2) rfl ⟨?_, fun _ => rfl⟩
    show Except.ok (d (lawNums D)) = Except.ok (d N)
    rw [ed]
end Tf

namespace Tf
open PySem PySem.Spec PyProof.Rows L2 Dt
def n__law_turns : List Str := ["_law_pairs", "_law_found", "_law_corner", "_law_other"]
theorem sc__law_turns : FnScope n__law_turns ["_law_pairs"] (defScope s__law_turns) := ⟨rfl, rfl, rfl, by decide +kernel, rfl, by decide +kernel, by decide +kernel⟩
theorem ok__law_turns {P : Program} {w : World} {K : PySem.W.Frag} {mg : Str → Option Value} {base : Heap} (Z : Top hfa hfn K mg) :
    ∃ fd, Fd P w K mg base CX0 3 "_law_turns" (He.ga K "_law_turns") fd ["_law_pairs"] (sp__law_turns K) := by
  obtain ⟨fd, F⟩ := Z.def_ 41 (d := d__law_turns) rfl
  obtain ⟨fd__law_numbers, G__law_numbers⟩ := ok__law_numbers (P := P) (w := w) (base := base) Z
  obtain ⟨fd__law_turn, G__law_turn⟩ := ok__law_turn (P := P) (w := w) (base := base) Z
  obtain ⟨fd__law_order, F__law_order⟩ := Z.def_ 33 (d := d__law_order) rfl
  have b__law_order : Binds K fd__law_order ["_law_place"] [] := FunD.bindsN F__law_order (ps := ["_law_place"]) fun _ _ _ _ _ _ us hl => match us, hl with | [_], _ => rfl
  have g__law_order := Z.glo 25 (x := "_law_order") rfl
  refine ⟨fd, FunD.ok F sc__law_turns (fun vs H Q E h => lenN1 h) fun cdv A outer s H vs Q E hr h => ?_, Z.glo 33 (x := "_law_turns") rfl, F.kp, FunD.bindsN F (ps := ["_law_pairs"]) fun _ _ _ _ _ _ us hl => match us, hl with | [_], _ => rfl⟩
  have hu0 := hr.units0
  have hu1 := hu_of hr
  have hu64 := hr.units
  have hu65 := hu65_of hr
  refine ⟨_, PSs.nox (pss_cons (ps_set (i := 1) sc__law_turns.nd rfl (Or.inl rfl) (pe_lst pa_nil))
      (pss_cons (ps_for PassesOwn.never rfl (pi_anyK K (pe_sortDef (T := tabs K) K (Z.free 85 (x := "sorted") rfl) (pa_cons (pe_callTy (crK rListV K (ucall_listV rfl)) (by rfl) (Z.free 81 (x := "list") rfl) (by decide +kernel) (pa_cons (pe_fd G__law_numbers (hr.mono (by decide)) pass0 (pa_cons (pv 0) pa_nil)) pa_nil)) pa_nil) hr F__law_order b__law_order sc__law_order g__law_order rfl)) (pg_name (i := 2) sc__law_turns.nd rfl (Or.inl rfl)) (pss_cons (ps_set (i := 3) sc__law_turns.nd rfl (Or.inl rfl) (pe_callTy (call_dictT (Nat.lt_of_le_of_lt (Nat.add_le_add_left (Nat.le_of_ble_eq_true rfl) _) hu64)) (by rfl) (Z.free 76 (x := "dict") rfl) (by decide +kernel) (pa_cons (pv 0) pa_nil)))
      (pss_one (ps_if (pt_trK K (pe_fd G__law_turn (hr.mono (by decide)) pass0 (pa_cons (pv 3) (pa_cons (pv 2) pa_nil)))) (pss_one (ps_expr (pe_bmK K PySem.F.plainAttrs_list PySem.F.slot_list_append PySem.F.type_list_append mt_append (pv 1) (pa_cons (pv 2) pa_nil)))) pss_nil))))
      (pss_one (ps_ret (pv 1))))), ?_⟩
  clear hu0 hu1 hu64 hu65 hr F
  refine run_puN1 (K := K) 3 h rfl fun D pre => ?_
  obtain ⟨cells, L⟩ := pre
  have lay := L.lay
  have nl := nums_len L
  have ll := lay.len
  show Run _ _ _ [.sh (d D), .no, .no, .no] _ _
  refine r_seq (r_ownL (i := 1) (exN_nil Pt) fun p => ?_)
  show Run _ _ _ [.sh (d D), .ow p (d ([] : List Pt)), .no, .no] _ _
  refine r_seq (r_forF (xs := inOrder (lawNums D).keys) (fun a => [.sh (d D), .ow p (d a), .no, .no]) (fun a c => if (turnP D c).isSome = true then a ++ [c] else a) ([] : List Pt) (fun i a => a.length ≤ i) (ei_list' (exN_sortP (ps := (lawNums D).keys) (ex_keysV (D := lawNums D) (exN_call1 (f := lawNums) (pre := fun D => ∃ cells, LayH cells D) (x := D) (ex_var rfl) ⟨cells, L⟩).ex)).ex) (by wtm_at "tf_less") (Nat.le_refl _) (fun i c a hc _ ha => ?_) fun _ => ?_)
  · have hi := (List.getElem?_eq_some_iff.mp hc).1
    unfold inOrder at hi
    rw [List.length_mergeSort] at hi
    have ha' : a.length ≤ i := ha
    refine ⟨?_, _, bd_name, ?_⟩
    · show (if (turnP D c).isSome = true then a ++ [c] else a).length ≤ i + 1
      split
      · rw [List.length_append, List.length_singleton]; omega
      · omega
    show Run _ _ _ [.sh (d D), .ow p (d a), .sh (d c), .no] _ _
    refine r_seq (r_ownD (i := 3) (B := D) (exN_dictC (ex_var rfl) lay.keys) fun q => ?_)
    show Run _ _ _ [.sh (d D), .ow p (d a), .sh (d c), .ow q (d D)] _ _
    refine r_ifM (em_callG0 (i := 3) (p := q) (e := d D) (es := [d c]) ((D, c) : Dc Pt × Pt) rfl (ea_cons' (ex_var rfl) ea_nil') ⟨rfl, rfl, by show D.l.length ≤ 1000; omega⟩ fun e' r hp => ?_) fun Γ' r hp => ?_
    · obtain ⟨rfl, rfl⟩ := hp
      exact ⟨flat_dc _, rfl⟩
    · obtain ⟨e', rfl, rfl, rfl⟩ := hp
      refine ⟨(turnP D c).isSome, rfl, fun hb => ?_, fun hb => r_next ?_⟩
      · refine r_app (i := 1) (p := p) (xs := a) (x := c) rfl (es_hid (ex_var rfl)) (by omega) ?_
        show LessL _ [.sh (d D), .ow p (d (if (turnP D c).isSome = true then a ++ [c] else a)), .no, .no]
        rw [if_pos hb]
        wtm_at "tf_less"
      · show LessL _ [.sh (d D), .ow p (d (if (turnP D c).isSome = true then a ++ [c] else a)), .no, .no]
        rw [if_neg (by rw [hb]; decide)]
        wtm_at "tf_less"
  · refine r_retO (i := 1) rfl ⟨?_, fun _ => rfl⟩
    rw [foldl_pick]
    rfl
def n__law_changes : List Str := ["_law_pairs", "_law_other", "_law_corner", "_law_numbers_here", "_law_others", "_law_changed", "_law_one"]
theorem sc__law_changes : FnScope n__law_changes ["_law_pairs", "_law_other", "_law_corner"] (defScope s__law_changes) := ⟨rfl, rfl, rfl, by decide +kernel, rfl, by decide +kernel, by decide +kernel⟩
theorem ok__law_changes {P : Program} {w : World} {K : PySem.W.Frag} {mg : Str → Option Value} {base : Heap} (Z : Top hfa hfn K mg) :
    ∃ fd, Fd P w K mg base CX0 3 "_law_changes" (He.ga K "_law_changes") fd ["_law_pairs", "_law_other", "_law_corner"] (sp__law_changes K) := by
  obtain ⟨fd, F⟩ := Z.def_ 43 (d := d__law_changes) rfl
  obtain ⟨fd__law_numbers, G__law_numbers⟩ := ok__law_numbers (P := P) (w := w) (base := base) Z
  refine ⟨fd, FunD.ok F sc__law_changes (fun vs H Q E h => len3 h) fun cdv A outer s H vs Q E hr h => ?_, Z.glo 35 (x := "_law_changes") rfl, F.kp, FunD.bindsN F (ps := ["_law_pairs", "_law_other", "_law_corner"]) fun _ _ _ _ _ _ us hl => match us, hl with | [_, _, _], _ => rfl⟩
  have hu0 := hr.units0
  have hu1 := hu_of hr
  have hu64 := hr.units
  have hu65 := hu65_of hr
  refine ⟨_, PSs.nox (pss_cons (ps_set (i := 3) sc__law_changes.nd rfl (Or.inr rfl) (pe_fd G__law_numbers (hr.mono (by decide)) pass0 (pa_cons (pv 0) pa_nil)))
      (pss_cons (ps_set (i := 4) sc__law_changes.nd rfl (Or.inr rfl) (pe_fd G__law_numbers (hr.mono (by decide)) pass0 (pa_cons (pv 1) pa_nil)))
      (pss_cons (ps_lock (ps_setLc (i := 5) (own := [("_law_one", 6)]) rfl sc__law_changes.nd rfl rfl (sw_true rfl rfl rfl (by decide +kernel)) (pi_keys (pv 3)) (blkOk_by (own := [("_law_one", 6)]) (N := n__law_changes) (sc := defScope s__law_changes) (by decide +kernel)) (fun _ _ _ _ _ => by exact (pg_name (i := 6) sc__law_changes.nd rfl (Or.inl rfl))) (fun _ _ _ _ _ => by exact (pts_one (pt_cmp (pc_op (opK rNeD K (op_neD hu64)) (pe_ixK K hu1 (pv 3) (pv 6)) (pe_ixK K hu1 (pv 4) (pv 6)))))) (fun _ _ _ _ _ => by exact (pv 6))))
      (pss_one (ps_ret (pe_and (pe_cmp (pc_op (opK rEqD K (op_eqD hu64)) (pv 5) (pe_lst (pa_cons (pv 2) pa_nil)))) (pe_one (pe_cmp (pc_op (opK rEqD K (op_eqD hu64)) (pe_callB call_abs (by rfl) (Z.free 74 (x := "abs") rfl) (by decide +kernel) (pa_cons (pe_op op_sub (pe_ixK K hu1 (pv 3) (pv 2)) (pe_ixK K hu1 (pv 4) (pv 2))) pa_nil)) pe_int))))))))), ?_⟩
  clear hu0 hu1 hu64 hu65 hr F
  refine run_pu3 (K := K) 4 h rfl fun D D' c pre => ?_
  obtain ⟨cells, L, L', hc⟩ := pre
  have nl := nums_len L
  have all1 : ∀ x ∈ (lawNums D).keys, (lawNums D).get x = some (gN (lawNums D) x) ∧ (lawNums D').get x = some (gN (lawNums D') x) := fun x hx => ⟨get_gN (L.isN (L.memN.mp hx)), get_gN (L'.isN (L.memN.mp hx))⟩
  have i1 := L.isN hc
  have i2 := L'.isN hc
  show Run _ _ _ [.sh (d D), .sh (d D'), .sh (d c), .no, .no, .no, .no] _ _
  refine r_seq (r_asg (e := d (lawNums D)) (es_hid (exN_call1 (f := lawNums) (pre := fun D => ∃ cells, LayH cells D) (x := D) (ex_var rfl) ⟨cells, L⟩).ex) ?_)
  refine r_seq (r_asg (e := d (lawNums D')) (es_hid (exN_call1 (f := lawNums) (pre := fun D => ∃ cells, LayH cells D) (x := D') (ex_var rfl) ⟨cells, L'⟩).ex) ?_)
  have cd : changesB D D' c = (decide (changedL D D' = [c]) && decide (absI (gN (lawNums D) c - gN (lawNums D') c) = 4)) := rfl
  have ce : changedL D D' = ((lawNums D).keys.filter fun p => !decide (gN (lawNums D) p = gN (lawNums D') p)).map fun p => p := by rw [List.map_id']; rfl
  rw [cd]
  generalize changedL D D' = ch at ce ⊢
  generalize lawNums D = N at nl all1 i1 ce ⊢
  generalize lawNums D' = N' at all1 i2 ce ⊢
  show Run _ _ _ [.sh (d D), .sh (d D'), .sh (d c), .sh (d N), .sh (d N'), .no, .no] _ _
  refine r_seq (r_lock (r_asg (e := d ch) (es_hid (ex_eq (ex_overD2 (i := 3) (j := 4) (D := N) (D2 := N') (f := fun p => p) (pr := fun p => !decide (gN N p = gN N' p)) (bs := fun x => [(6, d x)]) rfl rfl (fun _ => bd_name) (fun _ => rfl) (fun F1 q od kvs v2 σ' x hx s' fq rk zr => ?_) (by omega)) (congrArg d ce.symm))) ?_))
  · obtain ⟨g1, g2⟩ := all1 x hx
    have lk : Lk F1 σ' 3 q od kvs N := ⟨s'.raw 3 _ rfl, fq, rk⟩
    have vx : Ev (tabs K) (tVar 6) σ' F1 x := (ex_var (T := tabs K) (e := d x) rfl).at s'
    exact ⟨et_of (ev_neD (ev_zget lk vx g1) (ev_zr (s'.raw 4 _ rfl) zr vx g2)), fun _ => vx⟩
  show Run _ _ _ [.sh (d D), .sh (d D'), .sh (d c), .sh (d N), .sh (d N'), .sh (d ch), .no] _ _
  refine r_ret (e := d (decide (ch = [c]) && decide (absI (gN N c - gN N' c) = 4))) (es_hid (ex_andV (ex_eqG (x := ch) (y := [c]) (ex_var rfl) (exN_lst (exs_cons (x := c) (ex_var rfl) exs_nil) (Nat.le_of_ble_eq_true rfl)).ex inferInstance inferInstance (by decide)) fun _ => ex_eqI (x := absI (gN N c - gN N' c)) (y := 4) (ex_abs (i := gN N c - gN N' c) (ex_sub (ex_dGetG (D := N) (k := c) (ex_var rfl) (ex_var rfl) inferInstance i1) (ex_dGetG (D := N') (k := c) (ex_var rfl) (ex_var rfl) inferInstance i2))) ex_int)) ⟨rfl, fun z => nomatch z⟩
end Tf

namespace Tf
open PySem PySem.Spec PyProof.Rows L2 Dt
def n__law_asked : List Str := ["_law_floor", "_law_pieces", "_law_corner", "_law_error"]
theorem sc__law_asked : FnScope n__law_asked ["_law_floor", "_law_pieces", "_law_corner"] (defScope s__law_asked) := ⟨rfl, rfl, rfl, by decide +kernel, rfl, by decide +kernel, by decide +kernel⟩
theorem ok__law_asked {P : Program} {w : World} {K : PySem.W.Frag} {mg : Str → Option Value} {base : Heap} (Z : Top hfa hfn K mg) (TB : LamX.TabB base mg (He.cT K ("in_order", none)).1 (He.cT K ("in_order", none)).2) (Ks : Kinds K) :
    ∃ fd, Fd P w K mg base CX0 7 "_law_asked" (He.ga K "_law_asked") fd ["_law_floor", "_law_pieces", "_law_corner"] (sp__law_asked K) := by
  obtain ⟨fd, F⟩ := Z.def_ 42 (d := d__law_asked) rfl
  obtain ⟨fd_turned_at, G_turned_at⟩ := ok_turned_at (P := P) (w := w) (base := base) Z TB
  refine ⟨fd, FunD.ok F sc__law_asked (fun vs H Q E h => lenW3 h) fun cdv A outer s H vs Q E hr h => ?_, Z.glo 34 (x := "_law_asked") rfl, F.kp, FunD.bindsN F (ps := ["_law_floor", "_law_pieces", "_law_corner"]) fun _ _ _ _ _ _ us hl => match us, hl with | [_, _, _], _ => rfl⟩
  refine ⟨_, PSs.nox (pss_one (L2N.ps_try_as (i := 3) (ts := tsAsk K 3 7) rfl rfl sc__law_asked.nd rfl rfl
    ⟨by rfl, by decide, .inl (Z.glo 37 (x := "FloorError") rfl)⟩ takes_never (fun W pn xe tk po => pss_one (ps_ret (pe_lst (pa_cons (pe_fd G_turned_at (hr.mono (by decide)) (passW tk) (pa_cons (pv 0) (pa_cons (pv 1) (pa_cons (pv 2) pa_nil)))) (pa_cons pe_bl pa_nil)))))
    fun a oe cls dd pn hz hf => pss_ex fun c hc => ?_)), ?_⟩
  · obtain ⟨c1, c2, rfl, rfl⟩ := hc
    obtain ⟨fd__law_alone, G__law_alone⟩ := ok__law_alone (P := P) (w := w) (base := base) Z Ks c1 c2 (pin := (a, oe)) hz.zc hf
    exact pss_one (ps_ret (pe_lst (pa_cons pe_non (pa_cons (pe_fd1 G__law_alone (roomH_mark hr (by decide)) (Hot.of hz hf) List.mem_cons_self (pa_cons (pv 3) (pa_cons pe_int pa_nil))) pa_nil))))
  clear hr F
  refine run_puW3 (N := n__law_asked) (K := K) (t := fun D σ H => (fun W => tRet (tLst (tCons (tCall (sp_turned_at K) [] (fun cls dd H => ∀ σ : St, σ.length = 4 → W cls dd σ H) (tCons (tVar 0) (tCons (tVar 1) (tCons (tVar 2) tNil)))) (tCons (tC (.bl true)) tNil)))) (L2.wAs K (.ref (He.ga K "FloorError")) 3 (tsAsk K 3 7) (fun _ _ _ _ => False) D) D σ H) 1 h rfl fun f x y pre => ?_
  obtain ⟨fl, ok, oky⟩ := pre
  refine run_askW (k := 7) (i := 3) (n := 4) (r := turnedR f x y) (Γ := [.sh (d f), .sh x, .sh y, .no]) (tb := fun W => tRet (tLst (tCons (tCall (sp_turned_at K) [] (fun cls dd H => ∀ σ : St, σ.length = 4 → W cls dd σ H) (tCons (tVar 0) (tCons (tVar 1) (tCons (tVar 2) tNil)))) (tCons (tC (.bl true)) tNil)))) rfl (by decide) (by decide) Ks (fun c hc => by rcases turnedR_err hc with rfl | rfl <;> decide) fun W => ?_
  cases hr : turnedR f x y with
  | ok e =>
    obtain ⟨ps, rfl⟩ := turnedR_list hr
    exact rw_ret (exW_lst (es := [d ps, .bool true]) (eaW_cons (exW_l (xs := ps) (exN_px (P := fun es r => ∃ (f : Fl) (x y : PyData), es = [d f, x, y] ∧ FlG K f ∧ okPieces x ∧ okThing y ∧ r = turnedR f x y) (ea_cons' (ex_var rfl) (ea_cons' (ex_var rfl) (ea_cons' (ex_var rfl) ea_nil'))) ⟨f, x, y, rfl, fl, ok, oky, hr.symm⟩)) (eaW_cons (exW_i (x := true) ex_bool) eaW_nil)) (Nat.le_of_ble_eq_true rfl)) rfl
  | error c => exact rw_of (r_retX (er_lst (er_head (er_px (n := true) (P := fun es r => ∃ (f : Fl) (x y : PyData), es = [d f, x, y] ∧ FlG K f ∧ okPieces x ∧ okThing y ∧ r = turnedR f x y) (ea_cons' (ex_var rfl) (ea_cons' (ex_var rfl) (ea_cons' (ex_var rfl) ea_nil'))) ⟨f, x, y, rfl, fl, ok, oky, hr.symm⟩))) ⟨c, rfl, rfl⟩)
end Tf

namespace Tf
open PySem PySem.Spec PyProof.Rows L2 Dt
def n_law : List Str := ["_law_script", "_law_rows", "_law_pairs", "_law_floor", "_law_given", "_law_handed_here", "_law_due", "_law_found", "_law_kept", "_law_cell", "_law_thing", "_law_told_here", "_law_other", "_law_again"]
theorem sc_law : FnScope n_law ["_law_script"] (defScope s_law) := ⟨rfl, rfl, rfl, by decide +kernel, rfl, by decide +kernel, by decide +kernel⟩
theorem ok_law {P : Program} {w : World} {K : PySem.W.Frag} {mg : Str → Option Value} {base : Heap} (Z : Top hfa hfn K mg) (TB : LamX.TabB base mg (He.cT K ("in_order", none)).1 (He.cT K ("in_order", none)).2) (Ks : Kinds K) :
    ∃ fd, FunD K d_law.name d_law.qual d_law.params d_law.body d_law.scope (d_law.dvs K) (d_law.kws K) (He.fAd K d_law.at_) fd ∧ Fd P w K mg base CX0 8 "law" (He.ga K "law") fd ["_law_script"] (sp_law K) := by
  obtain ⟨fd, F⟩ := Z.def_ 44 (d := d_law) rfl
  obtain ⟨fd__law_told, G__law_told⟩ := ok__law_told (P := P) (w := w) (base := base) Z
  obtain ⟨fd_turned_at, G_turned_at⟩ := ok_turned_at (P := P) (w := w) (base := base) Z TB
  obtain ⟨fd__law_changes, G__law_changes⟩ := ok__law_changes (P := P) (w := w) (base := base) Z
  obtain ⟨fd__law_turn, G__law_turn⟩ := ok__law_turn (P := P) (w := w) (base := base) Z
  obtain ⟨fd_turns_of, G_turns_of⟩ := ok_turns_of (P := P) (w := w) (base := base) Z TB
  obtain ⟨fd__law_asked, G__law_asked⟩ := ok__law_asked (P := P) (w := w) (base := base) Z TB Ks
  obtain ⟨fd__law_cell_at, G__law_cell_at⟩ := ok__law_cell_at (P := P) (w := w) (base := base) Z
  obtain ⟨fd__law_turns, G__law_turns⟩ := ok__law_turns (P := P) (w := w) (base := base) Z
  obtain ⟨fd__law_handed, G__law_handed⟩ := ok__law_handed (P := P) (w := w) (base := base) Z
  obtain ⟨fd__law_drawn_pairs, G__law_drawn_pairs⟩ := ok__law_drawn_pairs (P := P) (w := w) (base := base) Z
  obtain ⟨fd__law_floor_by, G__law_floor_by⟩ := ok__law_floor_by (P := P) (w := w) (base := base) Z
  obtain ⟨fd_Floor, G_Floor⟩ := ok_Floor_m_init (P := P) (w := w) (base := base) Z
  refine ⟨fd, F, FunD.ok F sc_law (fun vs H Q E h => lenC1 h) fun cdv A outer s H vs Q E hr h => ?_, Z.glo 36 (x := "law") rfl, F.kp, FunD.bindsN F (ps := ["_law_script"]) fun _ _ _ _ _ _ us hl => match us, hl with | [_], _ => rfl⟩
  have hu0 := hr.units0
  have hu1 := hu_of hr
  have hu64 := hr.units
  have hu65 := hu65_of hr
  refine ⟨_, PSs.nox (pss_cons (ps_asg (pe_fd G__law_floor_by (hr.mono (by decide)) pass0 (pa_cons (pv 0) pa_nil)) (pg_tupK K (n := 2) rfl (pgs_cons (pg_name (i := 1) sc_law.nd rfl (Or.inl rfl)) (pgs_cons (pg_name (i := 2) sc_law.nd rfl (Or.inl rfl)) pgs_nil))))
      (pss_cons (ps_set (i := 2) sc_law.nd rfl (Or.inl rfl) (pe_fd G__law_drawn_pairs (hr.mono (by decide)) pass0 (pa_cons (pv 2) (pa_cons (pe_fd G__law_cell_at (hr.mono (by decide)) pass0 (pa_cons (pv 0) (pa_cons pe_int pa_nil))) (pa_cons (pe_op op_mod (pe_fd G__law_cell_at (hr.mono (by decide)) pass0 (pa_cons (pv 0) (pa_cons pe_int pa_nil))) pe_int) pa_nil)))))
      (pss_cons (ps_set (i := 3) sc_law.nd rfl (Or.inl rfl) (pe_mk G_Floor (hr.mono (by decide)) passN (pa_cons (pe_callTy (crK rListV K (ucall_listV rfl)) (by rfl) (Z.free 81 (x := "list") rfl) (by decide +kernel) (pa_cons (pv 1) pa_nil)) pa_nil)))
      (pss_cons (ps_set (i := 4) sc_law.nd rfl (Or.inl rfl) (pe_fd G__law_handed (hr.mono (by decide)) pass0 (pa_cons (pv 2) (pa_cons (pe_fd G__law_cell_at (hr.mono (by decide)) pass0 (pa_cons (pv 0) (pa_cons pe_int pa_nil))) pa_nil))))
      (pss_cons (ps_set (i := 5) sc_law.nd rfl (Or.inl rfl) (pe_callTy (crK rListV K (ucall_listV rfl)) (by rfl) (Z.free 81 (x := "list") rfl) (by decide +kernel) (pa_cons (pv 4) pa_nil)))
      (pss_cons (ps_set (i := 6) sc_law.nd rfl (Or.inl rfl) (pe_fd G__law_turns (hr.mono (by decide)) pass0 (pa_cons (pv 2) pa_nil)))
      (pss_cons (ps_set (i := 7) sc_law.nd rfl (Or.inl rfl) (pe_fd G_turns_of (hr.mono (by decide)) passN (pa_cons (pv 3) (pa_cons (pv 5) pa_nil))))
      (pss_cons (ps_if (PW.pt (pw_or (pt_not (pt_trK K (pe_callB (crK rIsi K call_isi) (by rfl) (Z.free 79 (x := "isinstance") rfl) (by decide +kernel) (pa_cons (pv 7) (pa_cons (pe_bltn (by rfl) (Z.free 81 (x := "list") rfl) (by decide +kernel) (v := .ty "list") rfl) pa_nil))))) (pw_or (pt_cmp (pc_op (opK rNeD K (op_neD hu64)) (pv 7) (pv 6))) (pw_or1 (pt_cmp (pc_op (opK rNeD K (op_neD hu64)) (pv 5) (pv 4))))))) (pss_one (ps_ret pe_bl)) pss_nil)
      (pss_cons (ps_set (i := 8) sc_law.nd rfl (Or.inl rfl) (pe_callTy (crK rListV K (ucall_listV rfl)) (by rfl) (Z.free 81 (x := "list") rfl) (by decide +kernel) (pa_cons (pv 7) pa_nil)))
      (pss_cons (ps_expr (pe_bm0K K PySem.F.plainAttrs_list PySem.F.slot_list_clear PySem.F.type_list_clear mt_clear (pe_fd G_turns_of (hr.mono (by decide)) passN (pa_cons (pv 3) (pa_cons (pv 5) pa_nil)))))
      (pss_cons (ps_set (i := 9) sc_law.nd rfl (Or.inl rfl) (pe_callB call_abs (by rfl) (Z.free 74 (x := "abs") rfl) (by decide +kernel) (pa_cons (pe_fd G__law_cell_at (hr.mono (by decide)) pass0 (pa_cons (pv 0) (pa_cons pe_int pa_nil))) pa_nil)))
      (pss_cons (ps_set (i := 10) sc_law.nd rfl (Or.inl rfl) (pe_tup (pa_cons (pe_op op_mod (pe_op op_fdiv (pv 9) pe_int) pe_int) (pa_cons (pe_op op_mod (pe_op op_fdiv (pv 9) pe_int) pe_int) pa_nil))))
      (pss_cons (ps_if (pt_cmp (pc_op (opK rEqD K (op_eqD hu64)) (pe_op op_mod (pv 9) pe_int) pe_int)) (pss_one (ps_set (i := 10) sc_law.nd rfl (Or.inl rfl) (pe_ixK K hu1 (pe_lst (pa_cons pe_non (pa_cons pe_str (pa_cons (pe_tup (pa_cons pe_int pa_nil)) (pa_cons (pe_tup (pa_cons pe_bl (pa_cons pe_int pa_nil))) (pa_cons (pe_lst (pa_cons pe_int (pa_cons pe_int pa_nil))) (pa_cons (pe_tup (pa_cons pe_int (pa_cons pe_str pa_nil))) pa_nil))))))) (pe_op op_mod (pe_op op_fdiv (pv 9) pe_int) pe_int)))) pss_nil)
      (pss_cons (ps_if (PW.pt (pw_and (pt_cmp (pc_op op_gt (pe_op op_mod (pv 9) pe_int) pe_int)) (pw_and1 (pt_cmp (pc_op (opK rNeD K (op_neD hu64)) (pv 6) (pe_lst pa_nil)))))) (pss_one (ps_set (i := 10) sc_law.nd rfl (Or.inl rfl) (pe_ixK K hu1 (pv 6) (pe_op op_mod (pe_op op_fdiv (pv 9) pe_int) (pe_callB (crK rLenU K ucall_len) (by rfl) (Z.free 80 (x := "len") rfl) (by decide +kernel) (pa_cons (pv 6) pa_nil)))))) pss_nil)
      (pss_cons (ps_set (i := 11) sc_law.nd rfl (Or.inl rfl) (pe_fd G__law_asked (hr.mono (by decide)) pass0 (pa_cons (pv 3) (pa_cons (pv 5) (pa_cons (pv 10) pa_nil)))))
      (pss_cons (ps_if (PW.pt (pw_or (pt_not (pt_trK K (pe_ixK K hu1 (pv 11) pe_int))) (pw_or (pt_cmp (pc_op (opK rNeD K (op_neD hu64)) (pv 5) (pv 4))) (pw_or (pt_cmp (pc_op (opK rNeD K (op_neD hu64)) (pv 7) (pv 8))) (pw_or1 (pt_cmp (pc_op (opK rNeD K (op_neD hu64)) (pe_fd G_turns_of (hr.mono (by decide)) passN (pa_cons (pv 3) (pa_cons (pe_callTy (crK rListV K (ucall_listV rfl)) (by rfl) (Z.free 81 (x := "list") rfl) (by decide +kernel) (pa_cons (pv 4) pa_nil)) pa_nil))) (pv 6)))))))) (pss_one (ps_ret pe_bl)) pss_nil)
      (pss_cons (ps_if (PW.pt (pw_or (pt_cmp (pc_op (opK rEqD K (op_eqD hu64)) (pe_op op_mod (pv 9) pe_int) pe_int)) (pw_or1 (pt_cmp (pc_notinK K hu65 (pv 10) (pv 6)))))) (pss_one (ps_ret (pe_cmp (pc_op uop_is (pe_ixK K hu1 (pv 11) pe_int) pe_non)))) pss_nil)
      (pss_cons (ps_set (i := 12) sc_law.nd rfl (Or.inl rfl) (pe_callTy (call_dictT (Nat.lt_of_le_of_lt (Nat.add_le_add_left (Nat.le_of_ble_eq_true rfl) _) hu64)) (by rfl) (Z.free 76 (x := "dict") rfl) (by decide +kernel) (pa_cons (pv 2) pa_nil)))
      (pss_cons (ps_expr (pe_fd G__law_turn (hr.mono (by decide)) pass0 (pa_cons (pv 12) (pa_cons (pv 10) pa_nil))))
      (pss_cons (ps_expr (pe_bm0K K PySem.F.plainAttrs_list PySem.F.slot_list_clear PySem.F.type_list_clear mt_clear (pv 5)))
      (pss_cons (ps_if (PW.pt (pw_or (pt_not (pt_trK K (pe_callB (crK rIsi K call_isi) (by rfl) (Z.free 79 (x := "isinstance") rfl) (by decide +kernel) (pa_cons (pe_ixK K hu1 (pv 11) pe_int) (pa_cons (pe_bltn (by rfl) (Z.free 81 (x := "list") rfl) (by decide +kernel) (v := .ty "list") rfl) pa_nil))))) (pw_or (pt_cmp (pc_op (opK rNeD K (op_neD hu64)) (pe_ixK K hu1 (pv 11) pe_int) (pe_fd G__law_told (hr.mono (by decide)) pass0 (pa_cons (pv 12) pa_nil)))) (pw_or1 (pt_not (pt_trK K (pe_fd G__law_changes (hr.mono (by decide)) pass0 (pa_cons (pv 2) (pa_cons (pv 12) (pa_cons (pv 10) pa_nil)))))))))) (pss_one (ps_ret pe_bl)) pss_nil)
      (pss_cons (ps_set (i := 13) sc_law.nd rfl (Or.inl rfl) (pe_fd G_turned_at (hr.mono (by decide)) passN (pa_cons (pv 3) (pa_cons (pe_ixK K hu1 (pv 11) pe_int) (pa_cons (pv 10) pa_nil)))))
      (pss_one (ps_ret (pe_and (pe_cmp (pc_op (opK rEqD K (op_eqD hu64)) (pv 13) (pe_fd G__law_told (hr.mono (by decide)) pass0 (pa_cons (pv 2) pa_nil)))) (pe_and (pe_cmp (pc_op (opK rEqD K (op_eqD hu64)) (pe_ixK K hu1 (pv 11) pe_int) (pe_fd G__law_told (hr.mono (by decide)) pass0 (pa_cons (pv 12) pa_nil)))) (pe_one (pe_cmp (pc_op (opK rEqD K (op_eqD hu64)) (pv 7) (pv 8)))))))))))))))))))))))))))))), ?_⟩
  clear hu0 hu1 hu64 hu65 hr F
  refine run_puC1 (K := K) 13 h rfl fun ns => ?_
  show Run _ _ _ [.sc K ns, .no, .no, .no, .no, .no, .no, .no, .no, .no, .no, .no, .no, .no] _ _
  have fine := can_fine ns
  have L0 := lay_base ns
  refine r_seq (r_asgT (e := d (canRows ns, flatPairs (baseRows ns) (upOf ns))) (es_hid (ex_callC (f := fun ns => (canRows ns, flatPairs (baseRows ns) (upOf ns))) rfl)) (bd_tup (bds_cons bd_name (bds_cons bd_name bds_nil))) ?_)
  show Run _ _ _ [.sc K ns, .sh (d (canRows ns)), .sh (d (flatPairs (baseRows ns) (upOf ns))), .no, .no, .no, .no, .no, .no, .no, .no, .no, .no, .no] _ _
  generalize canRows ns = rows at fine L0 ⊢
  generalize flatPairs (baseRows ns) (upOf ns) = D0 at L0 ⊢
  have m3 : 0 ≤ cellAt ns 3 % 61 ∧ cellAt ns 3 % 61 ≤ 60 := by omega
  refine r_seq (r_asg (e := d (drawnP D0 (cellAt ns 2) (cellAt ns 3 % 61))) (es_hid (exN_call3 (f := drawnP) (x := D0) (y := cellAt ns 2) (z := cellAt ns 3 % 61) (ex_var rfl) (by wtm_at "tf_go") (ex_mod (by wtm_at "tf_go") ex_int (by decide)) ⟨⟨_, L0.lay⟩, m3.1, by omega⟩).ex) ?_)
  have L := L0.drawn (n := cellAt ns 2) (many := cellAt ns 3 % 61)
  generalize drawnP D0 (cellAt ns 2) (cellAt ns 3 % 61) = D at L ⊢
  have flg := flG_of (K := K) fine
  have jd := judgeD_fine fine
  have okr := okRows_fine fine
  have br := fine.br
  refine r_seq (r_asg (e := d (flOf (He.ga K "Floor") (rtexts rows))) (es_hid (ex_make (rows := rtexts rows) (row_texts (exN_listV (ex_var rfl)).ex) okr jd)) ?_)
  obtain ⟨fl, ec⟩ := flg
  rw [← ec] at L
  generalize flOf (He.ga K "Floor") (rtexts rows) = f at fl L ⊢
  obtain ⟨D', tk⟩ := taken_handed fl L (cellAt ns 4)
  show Run _ _ _ [.sc K ns, .sh (d rows), .sh (d D), .sh (d f), .no, .no, .no, .no, .no, .no, .no, .no, .no, .no] _ _
  refine r_seq (r_asg (e := d (handedP D (cellAt ns 4))) (es_hid (exN_call2 (f := handedP) (pre := fun D _ => ∃ cells, Lay cells D) (x := D) (y := cellAt ns 4) (ex_var rfl) (by wtm_at "tf_go") ⟨_, L.lay⟩).ex) ?_)
  generalize handedP D (cellAt ns 4) = G at tk ⊢
  refine r_seq (r_ownL (i := 5) (exN_listV (xs := G) (ex_var rfl)) fun p => ?_)
  refine r_seq (r_asg (e := d (lawTurns D)) (es_hid (exN_call1 (f := lawTurns) (pre := fun D => ∃ cells, LayH cells D) (x := D) (ex_var rfl) ⟨_, L⟩).ex) ?_)
  have tr := tk.turns fl L
  have trD : ∀ c, c ∈ lawTurns D → c ∈ lawTurns (turned1 D c) ∧ toldP (turned1 (turned1 D c) c) = toldP D := fun c hc => turn_back L hc
  have chD : ∀ c, c ∈ lawTurns D → changesB D (turned1 D c) c = true := fun c hc => turn_changes L hc
  have corD : ∀ c, c ∈ lawTurns D → Cor f.cells c := fun c hc => (turn_cor L.lay.full ((mem_lawTurns L).mp hc)).2
  have tuD : ∀ c, c ∈ lawTurns D → turnedR f (d G) (d c) = .ok (d (toldP (turned1 D c))) := fun c hc => tk.turned fl L hc
  have noD : ∀ y, ¬ (isPlaceD y = true ∧ ptD y ∈ lawTurns D) → turnedR f (d G) y = .error "NoTurn" := fun y hy => tk.noturn fl L hy
  have okG := tk.ok
  generalize lawTurns D = due at tr trD chD corD tuD noD ⊢
  have tP : ∃ (f0 : Fl) (x : PyData), ([d f, d G] : List PyData) = [d f0, x] ∧ FlG K f0 ∧ okPieces x ∧ (Except.ok (d due) : Except Str PyData) = turnsR f0 x := ⟨f, d G, rfl, fl, okG, tr.symm⟩
  show Run _ _ _ [.sc K ns, .sh (d rows), .sh (d D), .sh (d f), .sh (d G), .ow p (d G), .sh (d due), .no, .no, .no, .no, .no, .no, .no] _ _
  refine r_seq (r_asg (e := d due) (es_seeL (exN_px (P := fun es r => ∃ (f : Fl) (x : PyData), es = [d f, x] ∧ FlG K f ∧ okPieces x ∧ r = turnsR f x) (ea_cons' (ex_var rfl) (ea_cons' (ex_var rfl) ea_nil')) tP)) ?_)
  show Run _ _ _ [.sc K ns, .sh (d rows), .sh (d D), .sh (d f), .sh (d G), .ow p (d G), .sh (d due), .sh (d due), .no, .no, .no, .no, .no, .no] _ _
  refine r_seq (r_if (b := false) (et_eq (et_or' (a := false) (b := false) (et_eq (et_not' (et_tr' (ex_isi (x := due) (r := true) (ex_var rfl) rfl rfl))) rfl) fun _ => et_eq (et_or' (a := false) (b := false) (et_of' (ex_eq (ex_neG (x := due) (y := due) (ex_var rfl) (ex_var rfl) inferInstance inferInstance (by decide)) (by rw [decide_eq_true rfl]; rfl))) fun _ => et_of' (ex_eq (ex_neG (x := G) (y := G) (ex_var rfl) (ex_var rfl) inferInstance inferInstance (by decide)) (by rw [decide_eq_true rfl]; rfl))) rfl) rfl) (fun hb => nomatch hb) fun _ => r_next ?_)
  refine r_seq (r_asg (e := d due) (es_hid (exN_listV (ex_var rfl)).ex) ?_)
  refine r_seq (r_clearN (es := due.map d) (exN_px (P := fun es r => ∃ (f : Fl) (x : PyData), es = [d f, x] ∧ FlG K f ∧ okPieces x ∧ r = turnsR f x) (ea_cons' (ex_var rfl) (ea_cons' (ex_var rfl) ea_nil')) tP) (immAll_map _) ?_)
  refine r_seq (r_asg (e := d (absI (cellAt ns 5))) (es_hid (ex_abs (i := cellAt ns 5) (by wtm_at "tf_go"))) ?_)
  have c0 : 0 ≤ absI (cellAt ns 5) := by unfold absI; split <;> omega
  generalize absI (cellAt ns 5) = c at c0 ⊢
  show Run _ _ _ [.sc K ns, .sh (d rows), .sh (d D), .sh (d f), .sh (d G), .ow p (d G), .sh (d due), .sh (d due), .sh (d due), .sh (d c), .no, .no, .no, .no] _ _
  refine r_seq (r_asg (e := d ((c / 4 % 8, c / 32 % 8) : Pt)) (es_hid (ex_pair (x := c / 4 % 8) (y := c / 32 % 8) (ex_mod (ex_fdiv (ex_var rfl) ex_int (by decide)) ex_int (by decide)) (ex_mod (ex_fdiv (ex_var rfl) ex_int (by decide)) ex_int (by decide)))) ?_)
  refine r_seqE (Γ1 := [.sc K ns, .sh (d rows), .sh (d D), .sh (d f), .sh (d G), .ow p (d G), .sh (d due), .sh (d due), .sh (d due), .sh (d c), .sh (thing1 c), .no, .no, .no]) (r_if (b := decide (c % 4 = 1)) (et_of' (ex_eqI (ex_mod (ex_var rfl) ex_int (by decide)) ex_int)) (fun hb => r_asg (e := thing1 c) (es_hid (ex_eq (ex_ixX (xs := odd6) (i := c / 4 % 6) (ex_lstX (ea_cons' ex_none (ea_cons' ex_str (ea_cons' (ex_tupX (ea_cons' ex_int ea_nil')) (ea_cons' (ex_tupX (ea_cons' ex_bool (ea_cons' ex_int ea_nil'))) (ea_cons' (ex_lstX (ea_cons' ex_int (ea_cons' ex_int ea_nil'))) (ea_cons' (ex_tupX (ea_cons' ex_int (ea_cons' ex_str ea_nil'))) ea_nil'))))))) (ex_mod (ex_fdiv (ex_var rfl) ex_int (by decide)) ex_int (by decide)) ⟨by omega, by show (c / 4 % 6).toNat < 6; omega⟩) ?_)) rfl) fun hb => r_next ?_) ?_
  · unfold thing1
    rw [if_pos (of_decide_eq_true hb)]
  · show Out.nx [.sc K ns, .sh (d rows), .sh (d D), .sh (d f), .sh (d G), .ow p (d G), .sh (d due), .sh (d due), .sh (d due), .sh (d c), .sh (d ((c / 4 % 8, c / 32 % 8) : Pt)), .no, .no, .no] = _
    unfold thing1
    rw [if_neg (of_decide_eq_false hb)]
  refine r_seqE (Γ1 := [.sc K ns, .sh (d rows), .sh (d D), .sh (d f), .sh (d G), .ow p (d G), .sh (d due), .sh (d due), .sh (d due), .sh (d c), .sh (thing2 c due), .no, .no, .no]) (r_if (b := decide (1 < c % 4) && !decide (due = [])) (et_and' (et_of' (ex_gt (ex_mod (ex_var rfl) ex_int (by decide)) ex_int)) fun _ => et_of' (ex_neG (x := due) (y := []) (ex_var rfl) (ex_nil Pt) inferInstance inferInstance (by decide))) (fun hb => ?_) fun hb => r_next ?_) ?_
  · have h2 : 1 < c % 4 ∧ due ≠ [] := by simpa using hb
    have lp : 0 < due.length := List.length_pos_iff.mpr h2.2
    have m0 := Int.emod_nonneg (c / 4) (show (due.length : Int) ≠ 0 by omega)
    have m1 := Int.emod_lt_of_pos (c / 4) (show (0 : Int) < due.length by omega)
    refine r_asg (e := thing2 c due) (es_hid (ex_eq (ex_ixG (xs := due) (i := c / 4 % (due.length : Int)) (ex_var rfl) (ex_mod (ex_fdiv (ex_var rfl) ex_int (by decide)) (ex_len (xs := due) (ex_var rfl)) (by omega)) inferInstance ⟨m0, by omega⟩) ?_)) rfl
    unfold thing2
    rw [if_pos h2]
  · show Out.nx [.sc K ns, .sh (d rows), .sh (d D), .sh (d f), .sh (d G), .ow p (d G), .sh (d due), .sh (d due), .sh (d due), .sh (d c), .sh (thing1 c), .no, .no, .no] = _
    have h2 : ¬ (1 < c % 4 ∧ due ≠ []) := fun z => by
      rw [decide_eq_true z.1, decide_eq_false z.2] at hb
      cases hb
    unfold thing2
    rw [if_neg h2]
  obtain ⟨okx, x1, x2⟩ := thing2_ok c due
  generalize thing2 c due = x at okx x1 x2 ⊢
  refine r_seq (r_asg (e := askedE 7 (turnedR f (d G) x)) (es_seeW (exW_call3 (f := fun f x y => askedE 7 (turnedR f x y)) (pre := fun f x y => FlG K f ∧ okPieces x ∧ okThing y) (x := f) (y := (d G : PyData)) (z := x) (ex_var rfl) (ex_var rfl) (ex_var rfl) ⟨fl, okG, okx⟩)) ?_)
  have yes : ∃ a : PyData, askedE 7 (turnedR f (d G) x) = .list [a, d true] := by
    by_cases hx : isPlaceD x = true ∧ ptD x ∈ due
    · have ex := place_pt hx.1
      rw [ex, tuD _ hx.2]
      exact ⟨_, rfl⟩
    · rw [noD x hx]
      exact ⟨.none, congrArg (fun b => PyData.list [.none, .bool b]) (by decide)⟩
  obtain ⟨a, ya⟩ := yes
  rw [ya]
  refine r_seq (r_if (b := false) (et_eq (et_or' (a := false) (b := false) (et_eq (et_not' (et_tr' (b := true) (ex_eq (ex_ixX (xs := [a, d true]) (i := 1) (ex_var rfl) ex_int ⟨by decide, Nat.le_of_ble_eq_true rfl⟩) rfl))) rfl) fun _ => et_eq (et_or' (a := false) (b := false) (et_of' (ex_eq (ex_neG (x := G) (y := G) (ex_var (i := 5) rfl) (ex_var (i := 4) rfl) inferInstance inferInstance (by decide)) (by rw [decide_eq_true rfl]; rfl))) fun _ => et_eq (et_or' (a := false) (b := false) (et_of' (ex_eq (ex_neG (x := due) (y := due) (ex_var (i := 7) rfl) (ex_var (i := 8) rfl) inferInstance inferInstance (by decide)) (by rw [decide_eq_true rfl]; rfl))) fun _ => et_of' (ex_eq (ex_neG (x := due) (y := due) (exN_px (P := fun es r => ∃ (f : Fl) (x : PyData), es = [d f, x] ∧ FlG K f ∧ okPieces x ∧ r = turnsR f x) (ea_cons' (ex_var (i := 3) rfl) (ea_cons' (exN_listV (xs := G) (ex_var (i := 4) rfl)).ex ea_nil')) tP).ex (ex_var (i := 6) rfl) inferInstance inferInstance (by decide)) (by rw [decide_eq_true rfl]; rfl))) rfl) rfl) rfl) (fun hb => nomatch hb) fun _ => r_next ?_)
  show Run _ _ _ [.sc K ns, .sh (d rows), .sh (d D), .sh (d f), .sh (d G), .ow p (d G), .sh (d due), .sh (d due), .sh (d due), .sh (d c), .sh x, .sh (.list [a, d true]), .no, .no] _ _
  by_cases hx : isPlaceD x = true ∧ ptD x ∈ due
  · have c1 : ¬ c % 4 = 1 := fun z => by rw [x1 z] at hx; cases hx.1
    have ex := place_pt hx.1
    have hq := hx.2
    generalize ptD x = q at ex hq
    subst ex
    rw [tuD q hq] at ya
    have ya' : PyData.list [d (toldP (turned1 D q)), d true] = .list [a, d true] := ya
    injection ya' with ya1
    injection ya1 with ya2 _
    subst ya2
    refine r_seq (r_if (b := false) (et_eq (et_or' (a := false) (b := false) (et_of' (ex_eq (ex_eqI (ex_mod (ex_var rfl) ex_int (by decide)) ex_int) (by rw [decide_eq_false c1]))) fun _ => et_of' (ex_eq (ex_notin (x := q) (xs := due) (ex_var rfl) (ex_var rfl)) (by rw [decide_eq_true hq]; rfl))) rfl) (fun hb => nomatch hb) fun _ => r_next ?_)
    have ll := L.lay.len
    have L1 := L.turned1 (c := q)
    obtain ⟨bk1, bk2⟩ := trD q hq
    have ch := chD q hq
    refine r_seq (r_ownD (i := 12) (B := D) (exN_dictC (ex_var rfl) L.lay.keys) fun p2 => ?_)
    show Run _ _ _ [.sc K ns, .sh (d rows), .sh (d D), .sh (d f), .sh (d G), .ow p (d G), .sh (d due), .sh (d due), .sh (d due), .sh (d c), .sh (d q), .sh (.list [d (toldP (turned1 D q)), d true]), .ow p2 (d D), .no] _ _
    refine r_seq (r_dropM (em_callG0 (i := 12) (p := p2) (e := d D) (es := [d q]) ((D, q) : Dc Pt × Pt) rfl (ea_cons' (ex_var rfl) ea_nil') ⟨rfl, rfl, by show D.l.length ≤ 1000; omega⟩ fun e' r hp => ?_) fun Γ' r hp => ?_)
    · obtain ⟨rfl, rfl⟩ := hp
      exact ⟨flat_dc _, rfl⟩
    obtain ⟨e', rfl, rfl, rfl⟩ := hp
    show Run _ _ _ [.sc K ns, .sh (d rows), .sh (d D), .sh (d f), .sh (d G), .ow p (d G), .sh (d due), .sh (d due), .sh (d due), .sh (d c), .sh (d q), .sh (.list [d (toldP (turned1 D q)), d true]), .ow p2 (d (turned1 D q)), .no] _ _
    obtain ⟨D2, tk2⟩ := taken_told fl L1
    have td2 := tk2.turned fl L1 bk1
    rw [bk2] at td2
    have ok2 := tk2.ok
    generalize turned1 D q = D1 at L1 ch td2 ok2 ⊢
    refine r_seq (r_clear (i := 5) (p := p) (es := G.map d) rfl ?_)
    show Run _ _ _ [.sc K ns, .sh (d rows), .sh (d D), .sh (d f), .sh (d G), .ow p (.list []), .sh (d due), .sh (d due), .sh (d due), .sh (d c), .sh (d q), .sh (.list [d (toldP D1), d true]), .ow p2 (d D1), .no] _ _
    refine r_seq (r_if (b := false) (et_eq (et_or' (a := false) (b := false) (et_eq (et_not' (et_tr' (ex_isi (x := toldP D1) (r := true) (ex_eq (ex_ixX (xs := [d (toldP D1), d true]) (i := 0) (ex_var rfl) ex_int ⟨by decide, Nat.le_of_ble_eq_true rfl⟩) rfl) rfl rfl))) rfl) fun _ => et_eq (et_or' (a := false) (b := false) (et_of' (ex_eq (ex_neG (x := toldP D1) (y := toldP D1) (ex_eq (ex_ixX (xs := [d (toldP D1), d true]) (i := 0) (ex_var rfl) ex_int ⟨by decide, Nat.le_of_ble_eq_true rfl⟩) rfl) (exN_call1 (f := toldP) (pre := fun D => ∃ cells, Lay cells D) (x := D1) (ex_var rfl) ⟨_, L1.lay⟩).ex inferInstance inferInstance (by decide)) (by rw [decide_eq_true rfl]; rfl))) fun _ => et_eq (et_not' (et_tr' (ex_eq (ex_call3 (f := changesB) (pre := fun D D' c => ∃ cells, LayH cells D ∧ LayH cells D' ∧ Cor cells c) (x := D) (y := D1) (z := q) (ex_var rfl) (ex_var rfl) (ex_var rfl) ⟨_, L, L1, corD q hq⟩) (congrArg d ch)))) rfl) rfl) rfl) (fun hb => nomatch hb) fun _ => r_next ?_)
    refine r_seq (r_asg (e := d (toldP D)) (es_hid (exN_px (P := fun es r => ∃ (f : Fl) (x y : PyData), es = [d f, x, y] ∧ FlG K f ∧ okPieces x ∧ okThing y ∧ r = turnedR f x y) (ea_cons' (ex_var rfl) (ea_cons' (ex_eq (ex_ixX (xs := [d (toldP D1), d true]) (i := 0) (ex_var rfl) ex_int ⟨by decide, Nat.le_of_ble_eq_true rfl⟩) rfl) (ea_cons' (ex_var rfl) ea_nil'))) ⟨f, d (toldP D1), d q, rfl, fl, ok2, okThing_pt q, td2.symm⟩).ex) ?_)
    show Run _ _ _ [.sc K ns, .sh (d rows), .sh (d D), .sh (d f), .sh (d G), .ow p (.list []), .sh (d due), .sh (d due), .sh (d due), .sh (d c), .sh (d q), .sh (.list [d (toldP D1), d true]), .ow p2 (d D1), .sh (d (toldP D))] _ _
    refine r_ret (e := d true) (es_imm (ex_eq (ex_andV (a := true) (b := true) (ex_eq (ex_eqG (x := toldP D) (y := toldP D) (ex_var rfl) (exN_call1 (f := toldP) (pre := fun D => ∃ cells, Lay cells D) (x := D) (ex_var rfl) ⟨_, L.lay⟩).ex inferInstance inferInstance (by decide)) (by rw [decide_eq_true rfl])) fun _ => ex_eq (ex_andV (a := true) (b := true) (ex_eq (ex_eqG (x := toldP D1) (y := toldP D1) (ex_eq (ex_ixX (xs := [d (toldP D1), d true]) (i := 0) (ex_var rfl) ex_int ⟨by decide, Nat.le_of_ble_eq_true rfl⟩) rfl) (exN_call1 (f := toldP) (pre := fun D => ∃ cells, Lay cells D) (x := D1) (ex_var rfl) ⟨_, L1.lay⟩).ex inferInstance inferInstance (by decide)) (by rw [decide_eq_true rfl])) fun _ => ex_eq (ex_eqG (x := due) (y := due) (ex_var rfl) (ex_var rfl) inferInstance inferInstance (by decide)) (by rw [decide_eq_true rfl])) rfl) rfl)) ⟨rfl, fun z => nomatch z⟩
  · rw [noD x hx] at ya
    have ya' : PyData.list [.none, d true] = .list [a, d true] := ya
    injection ya' with ya1
    injection ya1 with ya2 _
    subst ya2
    refine r_seq (r_if (b := true) ?_ (fun _ => r_ret (e := d true) (es_hid (ex_isN (x := ()) (neg := false) (ex_eq (ex_ixX (xs := [.none, d true]) (i := 0) (ex_var rfl) ex_int ⟨by decide, Nat.le_of_ble_eq_true rfl⟩) rfl) true ⟨fun _ => rfl, fun _ => rfl⟩)) ⟨rfl, fun z => nomatch z⟩) fun hb => nomatch hb)
    by_cases c1 : c % 4 = 1
    · exact et_eq (et_or' (a := true) (b := true) (et_of' (ex_eq (ex_eqI (ex_mod (ex_var rfl) ex_int (by decide)) ex_int) (by rw [decide_eq_true c1]))) fun z => nomatch z) rfl
    · obtain ⟨q, eq⟩ := x2 c1
      subst eq
      have nq : ¬ q ∈ due := fun z => hx ⟨place_of q, z⟩
      exact et_eq (et_or' (a := false) (b := true) (et_of' (ex_eq (ex_eqI (ex_mod (ex_var rfl) ex_int (by decide)) ex_int) (by rw [decide_eq_false c1]))) fun _ => et_of' (ex_eq (ex_notin (x := q) (xs := due) (ex_var rfl) (ex_var rfl)) (by rw [decide_eq_false nq]; rfl))) rfl
end Tf

namespace Tf
open PySem PySem.Spec PyProof.Rows L2 Dt
theorem excC_of {K : PySem.W.Frag} {D : Addr} (h : isxB K D = true) : ExcC K D := by
  unfold isxB at h
  simp only [Bool.and_eq_true, decide_eq_true_eq] at h
  obtain ⟨⟨⟨⟨⟨⟨⟨h1, h2⟩, h3⟩, h4⟩, h5⟩, h6⟩, h7⟩, h8⟩ := h
  exact ⟨h1, h2, h3, h4, h5, h6, h7, h8⟩
theorem names_in : ∀ c ∈ markNames, c ∈ hexc := by decide +kernel
theorem pairs_in : ∀ c ∈ markNames, ∀ x ∈ markNames, (c, x, decide (x = c ∨ x = "FloorError")) ∈ hsub := by decide +kernel
theorem kinds_of {K : PySem.W.Frag} (h : hex K = true) : Kinds K := by
  unfold hex at h
  simp only [Bool.and_eq_true] at h
  obtain ⟨⟨⟨h1, h2⟩, h3⟩, h4⟩ := h
  refine ⟨fun c hc => excC_of (List.all_eq_true.mp h1 c (names_in c hc)), fun c hc x hx => ?_, fun c hc => of_decide_eq_true (List.all_eq_true.mp h3 c (names_in c hc)), fun c hc => ?_⟩
  · exact of_decide_eq_true (List.all_eq_true.mp h2 _ (pairs_in c hc x hx))
  · have := of_decide_eq_true (List.all_eq_true.mp h4 _ (pairs_in c hc "FloorError" (by decide)))
    simpa using this
theorem tabs_empty {K : PySem.W.Frag} {H : Hp} (h : H (He.cT K ("in_order", none)).2 = some (.tbl #[])) : LamX.Tabs (tabs K) H := fun p hp => by
  rw [List.mem_singleton.mp hp]
  exact ⟨#[], h, True.intro, fun pos cv z => by cases z⟩
theorem law_spec {K : PySem.W.Frag} {H : Hp} {a : Addr} {ns : List Int} (t : LamX.Tabs (tabs K) H) (h : SqL K H a (ns.map V.int)) : sp_law K [.ref a] H (fun v _ => v = .bl true) fun _ _ _ => False := by
  have fin : ∀ {F : Hp}, Sub F H → SqL K F a (ns.map V.int) → sp_law K [.ref a] H (fun v _ => v = .bl true) fun _ _ _ => False := fun {F} s z => ⟨F, .ref a, ns, rfl, s, t, ⟨a, rfl, z⟩, fun u F' H' _ r => rv_bool (i := true) r⟩
  have one : ∀ {o : HO}, H a = some o → notTbl o → Sub (fun b => if b = a then some o else none) H := fun {o} e n b u z => by
    by_cases q : b = a
    · have z' : some o = some u := by simpa [q] using z
      cases z'
      rw [q]
      exact ⟨e, n⟩
    · have z' : (none : Option HO) = some u := by simpa [q] using z
      cases z'
  rcases h with z | z
  · rcases z with z | ⟨o, z⟩
    · exact fin (one z nt_lst) (.inl (.inl (if_pos rfl)))
    · exact fin (one z fun ps q => by cases q) (.inl (.inr ⟨o, if_pos rfl⟩))
  · exact fin (F := fun _ => none) (fun b u z => by cases z) (.inr z)
theorem law_at {w : World} {K : PySem.W.Frag} {h : Heap} {mg : Str → Option Value} {f : Addr} (X : K.In h) (G : h.Ns mainGlobals mg) (hf : mg ("law" : Str) = some (.ref f)) (c : He.SaysX hfa hfn [] htf hex w h K) :
    LamX.LawAtS PySem.Challenge.rw_turnfloor_k06_turns_told w K CX0 8 63 "_law_script" mg f h := by
  have cd := c.t.d
  obtain ⟨fd, F⟩ := cd.def_ 44 (d := d_law) rfl
  have e := hf.symm.trans (He.glo_ok X G (cd.fact 36 (f := .glo "law") rfl))
  cases e
  have hb := FunD.bindsA (ps := ["_law_script"]) F fun _ _ _ _ _ _ us hl => match us, hl with | [_], _ => rfl
  have m : (("in_order", none) : He.Defn) ∈ htf := by decide
  refine ⟨fd, [He.cT K ("in_order", none)], sp_law K, fun p hp => ?_, fun p hp => ?_, fun p hp => ?_, fun s u => hb s [u] rfl, fun H a ns _ _ ht hS => law_spec (tabs_empty (ht _ List.mem_cons_self)) hS, fun base KX G0 TB => ?_⟩
  · rw [List.mem_singleton.mp hp]
    exact c.empty _ m
  · rw [List.mem_singleton.mp hp]
    exact c.out _ m
  · rw [List.mem_singleton.mp hp]
    exact PySem.W.codeHd_of_K X (c.hd _ m)
  · have Z : Top hfa hfn K mg := top_of KX G0 cd
    obtain ⟨fd', F2, D⟩ := ok_law (P := (PySem.Challenge.rw_turnfloor_k06_turns_told).prog) (w := w) (base := base) Z (TB _ List.mem_cons_self) (kinds_of c.more)
    have ef : fd' = fd := by
      obtain ⟨_, _, _, _, _, _, _, _, _, _, _, l1, _⟩ := F2.ex
      obtain ⟨_, _, _, _, _, _, _, _, _, _, _, l2, _⟩ := F.ex
      rw [l1] at l2
      have l3 := Option.some.inj l2
      injection l3 with _ _ l4 _
      injection l4
    subst ef
    exact D.ok
end Tf
open PySem PySem.W PySem.Calls PyProof.Rows
theorem PySem.Challenge.cw_turnfloor_k06_turns_told_holds : PySem.Challenge.rw_turnfloor_k06_turns_told.Holds := by
  w_on; o_law
  refine HandSHeadRun.head_any (r := OpenLaw.row PySem.Challenge.rw_turnfloor_k06_turns_told) (q := view (OpenLaw.row PySem.Challenge.rw_turnfloor_k06_turns_told).prog [55]) (H := Tf.hk) (ob := Tf.ob) (M := 20000) (loose := Tf.hloose) (d := HandSHeadRun.topDef (OpenLaw.row PySem.Challenge.rw_turnfloor_k06_turns_told).prog 55) (kwd := []) Tf.ob_eq
    (by kernel_rfl) (fun s => by kernel_rfl) Tf.run (by kernel_rfl) (by kernel_rfl) (by kernel_rfl) (by rfl) (by first | assumption | decide +kernel) (by decide +kernel) ⟨rfl, rfl, rfl, rfl, rfl, by decide +kernel⟩ ?hw ?hc
  case hw => w_witness2
  case hc =>
    refine LamX.walk_ofTsE (l := PySem.Challenge.rw_turnfloor_k06_turns_told) (n := 63) (k := 8) (x := "_law_script") (CX := fun _ => L2.CX0) rfl (by decide) (by kernel_rfl) ⟨by decide, by decide, by decide⟩ ?F (fun _ _ _ _ _ z => z)
    intro w mg fa h Y G hmg0
    obtain ⟨K, KX, c⟩ := Y
    have hmg : mg ("law" : PySem.Str) = some (.ref fa) := by
      have e : (HandSHeadRun.topDef (OpenLaw.row PySem.Challenge.rw_turnfloor_k06_turns_told).prog 55).name = ("law" : PySem.Str) := by kernel_rfl
      rw [← e]
      exact hmg0
    exact ⟨K, KX, Tf.law_at KX G hmg c⟩
