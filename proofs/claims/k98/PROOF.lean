import PyProof.Rows.All
import Wide.All
import OpenK.AllK
import Wide.FinOn
import HandS.ForMost
import HandS.Exc
import HandS.ExcOwn
import HandS.CallSlots
import HandS.TupAny
import HandS.Conv
import HandS.WideBits
import HandS.Zip
import HandS.Wide
import HandS.SortInts
import HandS.Style
import HandS.NoneIn
import HandS.More
import HandS.WordsExc
import HandS.Gcd
import KE.KRevSl
import HandS.Iter
import KE.GoesMore
import HandS.Dict
import HandS.SortRule
import HandS.Deep
import HandS.TupMul
import PyProof.StrBlock2
import HandS.StrMore
import HandS.Strs
import KE.KSortTupG
import HandS.IsInst
import PyProof.PureStr
import PySem.Challenge.RW_foldworld_k98_whole_decks_and_raisins
set_option Elab.async false
set_option linter.all false
set_option maxRecDepth 100000
set_option maxHeartbeats 2000000
set_option autoImplicit false
namespace Fw
open PySem PySem.Spec L2

/-- values by content: tuples by value, lists by place -/
inductive Va where
  | non | bl (b : Bool) | int (i : Int) | str (x : List Nat) | tup (xs : List Va) | ros (xs : List Va) | loc (n : Nat) | fn (x : Str) | ty (n : String) | rg (i j c : Int) | tpw (xs : List Va)
abbrev En := List (Option Va)
inductive Ob where
  | lst (xs : List Va)
  | dct (kvs : List (Va × Va))
abbrev Hs := List Ob
structure Xn where
  cls : Str
  fs : List (Str × Va)
inductive Rs (α : Type) where
  | ok (a : α) (h : Hs) | ex (x : Xn) (h : Hs) | bad
inductive Rt where
  | nx (e : En) (h : Hs) | rt (v : Va) (h : Hs) | bk (e : En) (h : Hs) | ct (e : En) (h : Hs) | ex (x : Xn) (e : En) (h : Hs) | bad
abbrev Sm (α : Type) := En → Hs → Rs α
abbrev Sx := Sm Va
abbrev Ss := En → Hs → Rt

/-- what is fixed: the written part, the module's names -/
structure Ct where
  K : PySem.W.Frag
  mg : Str → Option Value

def RoL (K : PySem.W.Frag) (H : Hp) (a : Addr) (vs : List V) : Prop := (∃ o, H a = some (.frz o (.lst vs))) ∨ ∀ H', SqL K H' a vs
/-- a range object, as it stands -/
def rgObj (i : Int) (t : Tok) (j : Int) (u : Tok) (c : Int) (v : Tok) : PySem.Obj := { cls := .type "range", data := .fields #[.int i t, .int j u, .int c v] }
/-- a tuple of which all is known: it has no dict -/
def TupO (o : PySem.Obj) : Prop := o.cls = .type "tuple" ∧ o.dict = none
structure SqD (K : PySem.W.Frag) (H : Hp) (a : Addr) (vs : List V) : Prop where
  sq : SqT K H a vs
  dn : ∃ o u, H a = some (.frz o u) ∧ TupO o
theorem SqD.new {K : PySem.W.Frag} {H : Hp} {q : Addr} {o : PySem.Obj} {vs : List V} (t : TupO o) : SqD K (upd H q (.frz o (.tup vs))) q vs := ⟨.inl (.inr ⟨o, upd_same⟩), o, _, upd_same, t⟩
mutual
inductive Rp (C : Ct) (ρ : List Addr) (H : Hp) : Va → V → Prop
  | non : Rp C ρ H .non .non
  | bl (b : Bool) : Rp C ρ H (.bl b) (.bl b)
  | int (i : Int) : Rp C ρ H (.int i) (.int i)
  | str (x : List Nat) : Rp C ρ H (.str x) (.str ⟨x.toArray⟩)
  | tup {xs : List Va} {vs : List V} {a : Addr} : SqD C.K H a vs → RpL C ρ H xs vs → Rp C ρ H (.tup xs) (.ref a)
  | tpw {xs : List Va} {vs : List V} {a : Addr} : SqT C.K H a vs → RpL C ρ H xs vs → Rp C ρ H (.tpw xs) (.ref a)
  | ros {xs : List Va} {vs : List V} {a : Addr} : RoL C.K H a vs → RpL C ρ H xs vs → Rp C ρ H (.ros xs) (.ref a)
  | loc {n : Nat} {a : Addr} : ρ[n]? = some a → Rp C ρ H (.loc n) (.ref a)
  | fn {x : Str} {a : Addr} : C.mg x = some (.ref a) → Rp C ρ H (.fn x) (.ref a)
  | ty (n : String) : Rp C ρ H (.ty n) (.ty n)
  | rg {i j c : Int} {t u v : Tok} {a : Addr} : H a = some (.frz (rgObj i t j u c v) (.own 0)) → Rp C ρ H (.rg i j c) (.ref a)
inductive RpL (C : Ct) (ρ : List Addr) (H : Hp) : List Va → List V → Prop
  | nil : RpL C ρ H [] []
  | cons {x : Va} {xs : List Va} {v : V} {vs : List V} : Rp C ρ H x v → RpL C ρ H xs vs → RpL C ρ H (x :: xs) (v :: vs)
end

structure Ext (C : Ct) (ρ : List Addr) (H : Hp) (ρ' : List Addr) (H' : Hp) : Prop where
  pre : ∀ (n : Nat) (a : Addr), ρ[n]? = some a → ρ'[n]? = some a
  tup : ∀ a vs, SqT C.K H a vs → SqT C.K H' a vs
  frz : ∀ a o u, H a = some (.frz o u) → H' a = some (.frz o u)
  new : ∀ (n : Nat) (a : Addr), ρ'[n]? = some a → ρ[n]? = some a ∨ H a = none
  frm : ∀ a o, H a = some o → (∀ n : Nat, ρ[n]? ≠ some a) → H' a = some o
  liv : ∀ a o, H a = some o → ∃ o', H' a = some o'
theorem Ext.refl {C : Ct} {ρ : List Addr} {H : Hp} : Ext C ρ H ρ H := ⟨fun _ _ h => h, fun _ _ h => h, fun _ _ _ h => h, fun _ _ h => .inl h, fun _ _ h _ => h, fun _ o h => ⟨o, h⟩⟩
theorem Ext.trans {C : Ct} {ρ ρ1 ρ2 : List Addr} {H H1 H2 : Hp} (a : Ext C ρ H ρ1 H1) (b : Ext C ρ1 H1 ρ2 H2) : Ext C ρ H ρ2 H2 where
  pre := fun n x h => b.pre n x (a.pre n x h)
  tup := fun x vs h => b.tup x vs (a.tup x vs h)
  frz := fun x o u h => b.frz x o u (a.frz x o u h)
  new := fun n x h => by
    rcases b.new n x h with q | q
    · exact a.new n x q
    · right
      cases e : H x with
      | none => rfl
      | some o =>
        obtain ⟨o', e'⟩ := a.liv x o e
        rw [q] at e'; cases e'
  frm := fun x o h hn => b.frm x o (a.frm x o h hn) fun n q => by
    rcases a.new n x q with z | z
    · exact hn n z
    · rw [h] at z; cases z
  liv := fun x o h => by
    obtain ⟨o', e'⟩ := a.liv x o h
    exact b.liv x o' e'
theorem RoL.mono {C : Ct} {ρ ρ' : List Addr} {H H' : Hp} (x : Ext C ρ H ρ' H') {a : Addr} {vs : List V} (h : RoL C.K H a vs) : RoL C.K H' a vs := by
  rcases h with ⟨o, h⟩ | h
  · exact .inl ⟨o, x.frz _ _ _ h⟩
  · exact .inr h
theorem RoL.sq {K : PySem.W.Frag} {H : Hp} {a : Addr} {vs : List V} (h : RoL K H a vs) : SqL K H a vs := by
  rcases h with ⟨o, h⟩ | h
  · exact .inl (.inr ⟨o, h⟩)
  · exact h H
theorem SqD.mono {C : Ct} {ρ ρ' : List Addr} {H H' : Hp} (x : Ext C ρ H ρ' H') {a : Addr} {vs : List V} (h : SqD C.K H a vs) : SqD C.K H' a vs := ⟨x.tup _ _ h.sq, let ⟨o, u, e, t⟩ := h.dn; ⟨o, u, x.frz _ _ _ e, t⟩⟩
mutual
theorem Rp.mono {C : Ct} {ρ ρ' : List Addr} {H H' : Hp} (x : Ext C ρ H ρ' H') : ∀ {y : Va} {v : V}, Rp C ρ H y v → Rp C ρ' H' y v
  | _, _, .non => .non
  | _, _, .bl b => .bl b
  | _, _, .int i => .int i
  | _, _, .str s => .str s
  | _, _, .tup h r => .tup (h.mono x) (RpL.mono x r)
  | _, _, .tpw h r => .tpw (x.tup _ _ h) (RpL.mono x r)
  | _, _, .ros h r => .ros (h.mono x) (RpL.mono x r)
  | _, _, .loc h => .loc (x.pre _ _ h)
  | _, _, .fn h => .fn h
  | _, _, .ty n => .ty n
  | _, _, .rg h => .rg (x.frz _ _ _ h)
theorem RpL.mono {C : Ct} {ρ ρ' : List Addr} {H H' : Hp} (x : Ext C ρ H ρ' H') : ∀ {y : List Va} {v : List V}, RpL C ρ H y v → RpL C ρ' H' y v
  | _, _, .nil => .nil
  | _, _, .cons h r => .cons (Rp.mono x h) (RpL.mono x r)
end
section
variable {C : Ct} {ρ ρ' : List Addr} {H H' : Hp}
theorem RpL.length : ∀ {xs : List Va} {vs : List V}, RpL C ρ H xs vs → xs.length = vs.length
  | _, _, .nil => rfl
  | _, _, .cons _ r => by simp [RpL.length r]
theorem RpL.get : ∀ {xs : List Va} {vs : List V} {i : Nat} {x : Va}, RpL C ρ H xs vs → xs[i]? = some x → ∃ v, vs[i]? = some v ∧ Rp C ρ H x v
  | _, _, _, _, .nil, e => by simp at e
  | _, _, 0, _, .cons r _, e => by simp at e; subst e; exact ⟨_, rfl, r⟩
  | _, _, i + 1, x, .cons _ t, e => by
    obtain ⟨u, h1, h2⟩ := RpL.get (i := i) (x := x) t (by simpa using e)
    exact ⟨u, by simpa using h1, h2⟩
theorem RpL.append : ∀ {xs ys : List Va} {vs us : List V}, RpL C ρ H xs vs → RpL C ρ H ys us → RpL C ρ H (xs ++ ys) (vs ++ us)
  | _, _, _, _, .nil, s => s
  | _, _, _, _, .cons r t, s => .cons r (RpL.append t s)
theorem RpL.take : ∀ {xs : List Va} {vs : List V} (n : Nat), RpL C ρ H xs vs → RpL C ρ H (xs.take n) (vs.take n)
  | _, _, 0, _ => .nil
  | _, _, _ + 1, .nil => .nil
  | _, _, n + 1, .cons r t => .cons r (RpL.take n t)
theorem RpL.drop : ∀ {xs : List Va} {vs : List V} (n : Nat), RpL C ρ H xs vs → RpL C ρ H (xs.drop n) (vs.drop n)
  | _, _, 0, r => r
  | _, _, _ + 1, .nil => .nil
  | _, _, n + 1, .cons _ t => RpL.drop n t
theorem RpL.set {x : Va} {v : V} (r : Rp C ρ H x v) : ∀ {xs : List Va} {vs : List V} (i : Nat), RpL C ρ H xs vs → RpL C ρ H (xs.set i x) (vs.set i v)
  | _, _, _, .nil => .nil
  | _, _, 0, .cons _ t => .cons r t
  | _, _, i + 1, .cons q t => .cons q (RpL.set r i t)
end

/-- a key: an int or a text -/
def keyA : Va → Option Key
  | .int i => some (.inl i)
  | .str x => some (.inr ⟨x.toArray⟩)
  | _ => none
inductive RpK (C : Ct) (ρ : List Addr) (H : Hp) : List (Va × Va) → List (Key × V) → Prop
  | nil : RpK C ρ H [] []
  | cons {k x : Va} {k' : Key} {v : V} {xs : List (Va × Va)} {vs : List (Key × V)} : keyA k = some k' → Rp C ρ H x v → RpK C ρ H xs vs → RpK C ρ H ((k, x) :: xs) ((k', v) :: vs)
theorem RpK.map {C : Ct} {ρ ρ' : List Addr} {H H' : Hp} (f : ∀ {x : Va} {v : V}, Rp C ρ H x v → Rp C ρ' H' x v) : ∀ {xs : List (Va × Va)} {vs : List (Key × V)}, RpK C ρ H xs vs → RpK C ρ' H' xs vs
  | _, _, .nil => .nil
  | _, _, .cons e r rs => .cons e (f r) (RpK.map f rs)
theorem RpK.mono {C : Ct} {ρ ρ' : List Addr} {H H' : Hp} {xs : List (Va × Va)} {vs : List (Key × V)} (r : RpK C ρ H xs vs) (x : Ext C ρ H ρ' H') : RpK C ρ' H' xs vs := r.map fun q => q.mono x
def ObR (C : Ct) (ρ : List Addr) (H : Hp) : Ob → Addr → Prop
  | .lst xs, a => ∃ vs, H a = some (.lst vs) ∧ RpL C ρ H xs vs
  | .dct xs, a => ∃ vs, H a = some (.dK vs) ∧ RpK C ρ H xs vs
structure HR (C : Ct) (ρ : List Addr) (h : Hs) (H : Hp) : Prop where
  len : ρ.length = h.length
  nd : ∀ (i j : Nat) (a : Addr), ρ[i]? = some a → ρ[j]? = some a → i = j
  ob : ∀ (n : Nat) (o : Ob) (a : Addr), h[n]? = some o → ρ[n]? = some a → ObR C ρ H o a
def SR (C : Ct) (ρ : List Addr) (H : Hp) (e : En) (σ : St) : Prop := e.length = σ.length ∧ ∀ (i : Nat) (x : Va), e[i]? = some (some x) → ∃ v, σ[i]? = some (some v) ∧ Rp C ρ H x v
theorem SR.mono {C : Ct} {ρ ρ' : List Addr} {H H' : Hp} {e : En} {σ : St} (x : Ext C ρ H ρ' H') (h : SR C ρ H e σ) : SR C ρ' H' e σ :=
  ⟨h.1, fun i y q => let ⟨v, e1, r⟩ := h.2 i y q; ⟨v, e1, r.mono x⟩⟩
theorem SR.set {C : Ct} {ρ : List Addr} {H : Hp} {e : En} {σ : St} {x : Va} {v : V} (i : Nat) (h : SR C ρ H e σ) (r : Rp C ρ H x v) : SR C ρ H (e.set i (some x)) (σ.set i (some v)) := by
  refine ⟨by simp [h.1], fun j y q => ?_⟩
  by_cases hij : i = j
  · subst hij
    rw [List.getElem?_set] at q ⊢
    by_cases hl : i < e.length
    · simp [hl] at q
      subst q
      rw [h.1] at hl
      exact ⟨v, by simp [hl], r⟩
    · simp [hl] at q
  · rw [List.getElem?_set_ne hij] at q ⊢
    exact h.2 j y q
theorem HR.at_ {C : Ct} {ρ : List Addr} {h : Hs} {H : Hp} (x : HR C ρ h H) {n : Nat} {o : Ob} (e : h[n]? = some o) : ∃ a, ρ[n]? = some a ∧ ObR C ρ H o a := by
  have hl : n < ρ.length := by
    rw [x.len]
    exact (List.getElem?_eq_some_iff.mp e).1
  exact ⟨ρ[n], by simp [hl], x.ob n o _ e (by simp [hl])⟩
theorem HR.sm_ {C : Ct} {ρ : List Addr} {h : Hs} {H : Hp} (x : HR C ρ h H) {n : Nat} {a : Addr} (e : ρ[n]? = some a) : ∃ o, H a = some o := by
  have hl : n < h.length := by
    rw [← x.len]
    exact (List.getElem?_eq_some_iff.mp e).1
  have q := x.ob n h[n] a (by simp [hl]) e
  revert q
  cases h[n] with
  | lst xs => rintro ⟨vs, e, _⟩; exact ⟨_, e⟩
  | dct k => rintro ⟨vs, e, _⟩; exact ⟨_, e⟩
/-- an own list -/
theorem HR.ls_ {C : Ct} {ρ : List Addr} {h : Hs} {H : Hp} (x : HR C ρ h H) {n : Nat} {xs : List Va} {v : V} (e : h[n]? = some (.lst xs)) (r : Rp C ρ H (.loc n) v) : ∃ a vs, v = .ref a ∧ ρ[n]? = some a ∧ H a = some (.lst vs) ∧ RpL C ρ H xs vs := by
  cases r with
  | loc q =>
    obtain ⟨vs, e1, e2⟩ := x.ob n _ _ e q
    exact ⟨_, vs, rfl, q, e1, e2⟩
theorem ext_new {C : Ct} {ρ : List Addr} {H : Hp} {p : Addr} {o : HO} (hp : H p = none) : Ext C ρ H ρ (upd H p o) where
  pre := fun _ _ h => h
  tup := fun a vs h => by
    rcases h with (h | ⟨ob, h⟩) | h
    · exact .inl (.inl (by rw [upd_ne (ne_of_none h hp)]; exact h))
    · exact .inl (.inr ⟨ob, by rw [upd_ne (ne_of_none h hp)]; exact h⟩)
    · exact .inr h
  frz := fun a ob u h => by rw [upd_ne (ne_of_none h hp)]; exact h
  new := fun _ _ h => .inl h
  frm := fun a ob h _ => by rw [upd_ne (ne_of_none h hp)]; exact h
  liv := fun a ob h => ⟨ob, by rw [upd_ne (ne_of_none h hp)]; exact h⟩
theorem ext_alloc {C : Ct} {ρ : List Addr} {H : Hp} {p : Addr} {o : HO} (hp : H p = none) : Ext C ρ H (ρ ++ [p]) (upd H p o) := by
  have e := ext_new (C := C) (ρ := ρ) (o := o) hp
  refine ⟨fun n a h => ?_, e.tup, e.frz, fun n a h => ?_, e.frm, e.liv⟩
  · rw [List.getElem?_append_left (List.getElem?_eq_some_iff.mp h).1]; exact h
  · by_cases hl : n < ρ.length
    · rw [List.getElem?_append_left hl] at h; exact .inl h
    · right
      rw [List.getElem?_append_right (by omega)] at h
      have : n - ρ.length = 0 := by
        cases q : n - ρ.length with
        | zero => rfl
        | succ k => rw [q] at h; simp at h
      rw [this] at h
      simp at h
      rw [← h]; exact hp
/-- a new list -/
theorem HR.alloc {C : Ct} {ρ : List Addr} {h : Hs} {H : Hp} (x : HR C ρ h H) {p : Addr} (hp : H p = none) {xs : List Va} {vs : List V} (r : RpL C ρ H xs vs) :
    Ext C ρ H (ρ ++ [p]) (upd H p (.lst vs)) ∧ HR C (ρ ++ [p]) (h ++ [.lst xs]) (upd H p (.lst vs)) ∧ Rp C (ρ ++ [p]) (upd H p (.lst vs)) (.loc h.length) (.ref p) := by
  have e : Ext C ρ H (ρ ++ [p]) (upd H p (.lst vs)) := ext_alloc hp
  have np : ∀ i a, ρ[i]? = some a → a ≠ p := fun i a hi => by
    obtain ⟨o, ho⟩ := x.sm_ hi
    exact ne_of_none ho hp
  refine ⟨e, ⟨by simp [x.len], fun i j a hi hj => ?_, fun n o a hn ha => ?_⟩, .loc (by rw [← x.len]; simp)⟩
  · by_cases h1 : i < ρ.length <;> by_cases h2 : j < ρ.length
    · rw [List.getElem?_append_left h1] at hi
      rw [List.getElem?_append_left h2] at hj
      exact x.nd i j a hi hj
    · rw [List.getElem?_append_left h1] at hi
      rcases e.new j a hj with q | q
      · exact x.nd i j a hi q
      · obtain ⟨o, ho⟩ := x.sm_ hi
        rw [q] at ho; cases ho
    · rw [List.getElem?_append_left h2] at hj
      rcases e.new i a hi with q | q
      · exact x.nd i j a q hj
      · obtain ⟨o, ho⟩ := x.sm_ hj
        rw [q] at ho; cases ho
    · have l1 := (List.getElem?_eq_some_iff.mp hi).1
      have l2 := (List.getElem?_eq_some_iff.mp hj).1
      simp at l1 l2
      omega
  · by_cases h1 : n < ρ.length
    · rw [List.getElem?_append_left h1] at ha
      rw [List.getElem?_append_left (by rw [← x.len]; exact h1)] at hn
      have q := x.ob n o a hn ha
      revert q
      cases o with
      | lst ys =>
        rintro ⟨ws, e1, e2⟩
        exact ⟨ws, by rw [upd_ne (np n a ha)]; exact e1, e2.mono e⟩
      | dct k =>
        rintro ⟨ws, e1, e2⟩
        exact ⟨ws, by rw [upd_ne (np n a ha)]; exact e1, e2.mono e⟩
    · have l1 := (List.getElem?_eq_some_iff.mp ha).1
      have hl := x.len
      simp at l1
      have en : n = ρ.length := by omega
      subst en
      rw [hl] at hn
      simp at hn ha
      subst hn ha
      exact ⟨vs, upd_same, r.mono e⟩
/-- a list written -/
theorem HR.write {C : Ct} {ρ : List Addr} {h : Hs} {H : Hp} (x : HR C ρ h H) {n : Nat} {a : Addr} {xs xs' : List Va} {vs vs' : List V} (hn : h[n]? = some (.lst xs)) (ha : ρ[n]? = some a) (hl : H a = some (.lst vs)) (r : RpL C ρ H xs' vs') :
    Ext C ρ H ρ (upd H a (.lst vs')) ∧ HR C ρ (h.set n (.lst xs')) (upd H a (.lst vs')) := by
  have nt : ∀ b o, H b = some o → (∀ ws, o ≠ .lst ws) → b ≠ a := fun b o hb ho e => by
    subst e
    rw [hl] at hb
    exact ho vs (Option.some.inj hb).symm
  have e : Ext C ρ H ρ (upd H a (.lst vs')) := by
    refine ⟨fun _ _ q => q, fun b ws q => ?_, fun b o u q => ?_, fun _ _ q => .inl q, fun b o q hno => ?_, fun b o q => ?_⟩
    · rcases q with (q | ⟨ob, q⟩) | q
      · exact .inl (.inl (by rw [upd_ne (nt b _ q fun ws z => by cases z)]; exact q))
      · exact .inl (.inr ⟨ob, by rw [upd_ne (nt b _ q fun ws z => by cases z)]; exact q⟩)
      · exact .inr q
    · rw [upd_ne (nt b _ q fun ws z => by cases z)]; exact q
    · rw [upd_ne (fun z => hno n (by rw [z]; exact ha))]; exact q
    · by_cases hb : b = a
      · exact ⟨_, by rw [hb]; exact upd_same⟩
      · exact ⟨o, by rw [upd_ne hb]; exact q⟩
  refine ⟨e, by simp [x.len], x.nd, fun m o b hm hb => ?_⟩
  by_cases hmn : n = m
  · subst hmn
    have l := (List.getElem?_eq_some_iff.mp hn).1
    rw [List.getElem?_set_self l] at hm
    rw [ha] at hb
    cases hm; cases hb
    exact ⟨vs', upd_same, r.mono e⟩
  · rw [List.getElem?_set_ne hmn] at hm
    have q := x.ob m o b hm hb
    have hba : b ≠ a := fun z => hmn (x.nd n m a ha (by rw [← z]; exact hb))
    revert q
    cases o with
    | lst ys =>
      rintro ⟨ws, e1, e2⟩
      exact ⟨ws, by rw [upd_ne hba]; exact e1, e2.mono e⟩
    | dct k =>
      rintro ⟨ws, e1, e2⟩
      exact ⟨ws, by rw [upd_ne hba]; exact e1, e2.mono e⟩

/-- an exception that comes -/
def XR (C : Ct) (ρ : List Addr) (H : Hp) (x : Xn) (cls : Value) (d : Option Addr) : Prop :=
  ∃ Cl, C.mg x.cls = some (.ref Cl) ∧ cls = .ref Cl ∧ ∃ dd vs, d = some dd ∧ H dd = some (.xd vs) ∧ vs.map (·.1) = x.fs.map (·.1) ∧ RpL C ρ H (x.fs.map (·.2)) (vs.map (·.2))
/-- what is wanted behind a reading's run -/
def Po {α β : Type} (C : Ct) (rel : List Addr → Hp → α → β → Prop) (W : XK) (Q : β → Hp → Prop) (ρ : List Addr) (H : Hp) : Rs α → Prop
  | .ok x h => ∀ ρ' H' v, Ext C ρ H ρ' H' → HR C ρ' h H' → rel ρ' H' x v → Q v H'
  | .ex x h => ∀ ρ' H' cls d, Ext C ρ H ρ' H' → HR C ρ' h H' → XR C ρ' H' x cls d → W cls d H'
  | .bad => False
theorem Po.mono {α β : Type} {C : Ct} {rel : List Addr → Hp → α → β → Prop} {W : XK} {Q : β → Hp → Prop} {ρ ρ1 : List Addr} {H H1 : Hp} (e : Ext C ρ H ρ1 H1) : ∀ {r : Rs α}, Po C rel W Q ρ H r → Po C rel W Q ρ1 H1 r
  | .ok _ _, p => fun ρ' H' v e' => p ρ' H' v (e.trans e')
  | .ex _ _, p => fun ρ' H' c d e' => p ρ' H' c d (e.trans e')
  | .bad, p => p
/-- a reading by a run of plain data -/
def tX {α β : Type} (C : Ct) (rel : List Addr → Hp → α → β → Prop) (W : WX) (f : Sm α) : St → Hp → (β → Hp → Prop) → Prop := fun σ H Q =>
  ∃ ρ e h, SR C ρ H e σ ∧ HR C ρ h H ∧ Po C rel (fun c d H' => W c d σ H') Q ρ H (f e h)
abbrev tE (C : Ct) (W : WX) (f : Sx) : TE := tX C (Rp C) W f
abbrev tAr (C : Ct) (W : WX) (f : Sm (List Va)) : TA := tX C (RpL C) W f
abbrev tTe (C : Ct) (W : WX) (f : Sm Bool) : TT := tX C (fun _ _ a b => a = b) W f

def bnd {α β : Type} (f : Sm α) (k : α → Sm β) : Sm β := fun e h => match f e h with
  | .ok x h' => k x e h'
  | .ex x h' => .ex x h'
  | .bad => .bad
def ret {α : Type} (x : α) : Sm α := fun _ h => .ok x h
/-- on values alone -/
def vl {α : Type} (r : Hs → Rs α) : Sm α := fun _ h => r h
section
variable {α β γ δ : Type} {C : Ct} {W : WX} {σ : St} {H : Hp} {rel : List Addr → Hp → α → β → Prop} {rel2 : List Addr → Hp → γ → δ → Prop}
/-- THE STEP: a part first, then the rest from where the part led -/
theorem Po_bnd {f : Sm α} {k : α → Sm γ} {Q : δ → Hp → Prop} {R : β → Hp → Prop} {ρ : List Addr} {e : En} {h : Hs} (hs : SR C ρ H e σ) (hr : HR C ρ h H) (p : Po C rel2 (fun c d H' => W c d σ H') Q ρ H (bnd f k e h))
    (hk : ∀ (ρ1 : List Addr) (H1 : Hp) (h1 : Hs) (x : α) (v : β), Ext C ρ H ρ1 H1 → SR C ρ1 H1 e σ → HR C ρ1 h1 H1 → rel ρ1 H1 x v → Po C rel2 (fun c d H' => W c d σ H') Q ρ1 H1 (k x e h1) → R v H1) : tX C rel W f σ H R := by
  refine ⟨ρ, e, h, hs, hr, ?_⟩
  unfold bnd at p
  cases q : f e h with
  | ok x h1 =>
    rw [q] at p
    exact fun ρ1 H1 v e1 hr1 rv => hk ρ1 H1 h1 x v e1 (hs.mono e1) hr1 rv (Po.mono e1 p)
  | ex x h1 => rw [q] at p; exact p
  | bad => rw [q] at p; exact p
theorem tX_bnd {f : Sm α} {k : α → Sm γ} {Q : δ → Hp → Prop} {R : β → Hp → Prop} (h : tX C rel2 W (bnd f k) σ H Q)
    (hk : ∀ (ρ1 : List Addr) (H1 : Hp) (e : En) (h1 : Hs) (x : α) (v : β), SR C ρ1 H1 e σ → HR C ρ1 h1 H1 → rel ρ1 H1 x v → Po C rel2 (fun c d H' => W c d σ H') Q ρ1 H1 (k x e h1) → R v H1) : tX C rel W f σ H R := by
  obtain ⟨ρ, e, hh, hs, hr, p⟩ := h
  exact Po_bnd hs hr p fun ρ1 H1 h1 x v _ a b c d => hk ρ1 H1 e h1 x v a b c d
theorem Po.imp {W' : XK} {Q Q' : β → Hp → Prop} {W1 : XK} {ρ : List Addr} (hQ : ∀ v H', Q v H' → Q' v H') (hW : ∀ c d H', W1 c d H' → W' c d H') : ∀ {r : Rs α}, Po C rel W1 Q ρ H r → Po C rel W' Q' ρ H r
  | .ok _ _, p => fun ρ' H' v a b c => hQ _ _ (p ρ' H' v a b c)
  | .ex _ _, p => fun ρ' H' cc d a b c => hW _ _ _ (p ρ' H' cc d a b c)
  | .bad, p => p
end

/-! ### statements -/
def PoS (C : Ct) (W : WX) (D : Ends) (ρ : List Addr) (H : Hp) : Rt → Prop
  | .nx e h => ∀ ρ' H' σ', Ext C ρ H ρ' H' → HR C ρ' h H' → SR C ρ' H' e σ' → D.nx σ' H'
  | .bk e h => ∀ ρ' H' σ', Ext C ρ H ρ' H' → HR C ρ' h H' → SR C ρ' H' e σ' → D.bk σ' H'
  | .ct e h => ∀ ρ' H' σ', Ext C ρ H ρ' H' → HR C ρ' h H' → SR C ρ' H' e σ' → D.ct σ' H'
  | .rt x h => ∀ ρ' H' v, Ext C ρ H ρ' H' → HR C ρ' h H' → Rp C ρ' H' x v → D.rt v H'
  | .ex x e h => ∀ ρ' H' σ' cls d, Ext C ρ H ρ' H' → HR C ρ' h H' → SR C ρ' H' e σ' → XR C ρ' H' x cls d → W cls d σ' H'
  | .bad => False
theorem PoS.mono {C : Ct} {W : WX} {D : Ends} {ρ ρ1 : List Addr} {H H1 : Hp} (e : Ext C ρ H ρ1 H1) : ∀ {r : Rt}, PoS C W D ρ H r → PoS C W D ρ1 H1 r
  | .nx _ _, p => fun ρ' H' v e' => p ρ' H' v (e.trans e')
  | .bk _ _, p => fun ρ' H' v e' => p ρ' H' v (e.trans e')
  | .ct _ _, p => fun ρ' H' v e' => p ρ' H' v (e.trans e')
  | .rt _ _, p => fun ρ' H' v e' => p ρ' H' v (e.trans e')
  | .ex _ _ _, p => fun ρ' H' s c d e' => p ρ' H' s c d (e.trans e')
  | .bad, p => p
def tSt (C : Ct) (W : WX) (f : Ss) : TS := fun D σ H => ∃ ρ e h, SR C ρ H e σ ∧ HR C ρ h H ∧ PoS C W D ρ H (f e h)
/-- an expression first, then a statement's rest -/
def bnS {α : Type} (f : Sm α) (k : α → Ss) : Ss := fun e h => match f e h with
  | .ok x h' => k x e h'
  | .ex x h' => .ex x e h'
  | .bad => .bad
theorem PoS_bnS {α β : Type} {C : Ct} {W : WX} {σ : L2.St} {H : Hp} {rel : List Addr → Hp → α → β → Prop} {f : Sm α} {k : α → Ss} {D : Ends} {R : β → Hp → Prop} {ρ : List Addr} {e : En} {h : Hs} (hs : SR C ρ H e σ) (hr : HR C ρ h H) (p : PoS C W D ρ H (bnS f k e h))
    (hk : ∀ (ρ1 : List Addr) (H1 : Hp) (h1 : Hs) (x : α) (v : β), Ext C ρ H ρ1 H1 → SR C ρ1 H1 e σ → HR C ρ1 h1 H1 → rel ρ1 H1 x v → PoS C W D ρ1 H1 (k x e h1) → R v H1) : tX C rel W f σ H R := by
  refine ⟨ρ, e, h, hs, hr, ?_⟩
  unfold bnS at p
  cases q : f e h with
  | ok x h1 =>
    rw [q] at p
    exact fun ρ1 H1 v e1 hr1 rv => hk ρ1 H1 h1 x v e1 (hs.mono e1) hr1 rv (PoS.mono e1 p)
  | ex x h1 => rw [q] at p; exact fun ρ' H' cls d a b c => p ρ' H' σ cls d a b (hs.mono a) c
  | bad => rw [q] at p; exact p
theorem tSt_bnS {α β : Type} {C : Ct} {W : WX} {σ : L2.St} {H : Hp} {rel : List Addr → Hp → α → β → Prop} {f : Sm α} {k : α → Ss} {D : Ends} {R : β → Hp → Prop} (h : tSt C W (bnS f k) D σ H)
    (hk : ∀ (ρ1 : List Addr) (H1 : Hp) (e : En) (h1 : Hs) (x : α) (v : β), SR C ρ1 H1 e σ → HR C ρ1 h1 H1 → rel ρ1 H1 x v → PoS C W D ρ1 H1 (k x e h1) → R v H1) : tX C rel W f σ H R := by
  obtain ⟨ρ, e, hh, hs, hr, p⟩ := h
  exact PoS_bnS hs hr p fun ρ1 H1 h1 x v _ a b c d => hk ρ1 H1 e h1 x v a b c d
def seq (f g : Ss) : Ss := fun e h => match f e h with
  | .nx e' h' => g e' h'
  | r => r
end Fw

set_option Elab.async false
set_option linter.all false
set_option maxRecDepth 100000
set_option maxHeartbeats 2000000
set_option autoImplicit false
namespace Fw
open PySem PySem.Spec L2
open PyProof.Rows hiding St
/-! ### tuples just made: all of their record is known -/
section
variable {X : Cx} {pins : List (Addr × Obj)} {σ : L2.St} {H : Hp} {s : Shared} {h' : Heap}
theorem laidD {its : Array Value} {vs : List V} {a : Addr} {t' : Nat} (J : L2.Inv X pins σ H s) (k : ∀ b u, s.heap.get? b = some u → h'.get? b = some u) (le : s.heap.objs.size ≤ a) (at0 : h'.get? a = some { cls := .type "tuple", data := .seq its }) (rv : Vals vs its.toList) (z : vs.length ≤ sizeLine) :
    L2.Inv X pins σ (upd H a (.frz { cls := .type "tuple", data := .seq its } (.tup vs))) { s with heap := h', toks := t' } :=
  J.laid (t' := t') k le ⟨at0, z, its.toList, rv, by rw [Array.toArray_toList]; exact ⟨_, at0, rfl, _, rfl⟩⟩
theorem tupO_seq (its : Array Value) : TupO { cls := .type "tuple", data := .seq its } := ⟨rfl, rfl⟩
end
section
variable {X : Cx} {es : List Expr} {t : TA} {pos : Pos}
def NewT (Q : VK) (H : Hp) (vs : List V) : Prop := ∀ p o, TupO o → H p = none → Q (.ref p) (upd H p (.frz o (.tup vs)))
def tTupD (t : TA) : TE := fun σ H Q => t σ H fun xs H1 => xs.length ≤ sizeLine ∧ NewT Q H1 xs
theorem pe_tupD {x1} (h : PA X es t) : PE X (.Tuple es x1 pos) (tTupD t) := by
  refine ⟨fun pins s σ H Q I hq => wpAny_Tuple_spliced (L2.thn (h.run pos pins s σ H _ I hq) fun us s1 ⟨xs, H1, I1, r, z, q⟩ => ⟨by rw [← r.length]; exact z, ?_⟩)⟩
  exact ⟨.ref s1.heap.objs.size, _, laidD (its := us.toArray) (t' := s1.toks) I1 (fun b u e => Heap.get?_push_of_some _ e) (Nat.le_refl _) (Heap.get?_push_size _ rfl) r z, rfl, q _ _ (tupO_seq _) (I1.hok.fresh (Nat.le_refl _))⟩
def rCatD (K : PySem.W.Frag) : R2 := fun x y H Q => ∃ a b xs ys, x = .ref a ∧ y = .ref b ∧ SqT K H a xs ∧ SqT K H b ys ∧ xs.length + ys.length ≤ sizeLine ∧
  (xs = [] → Q (.ref b) H) ∧ (xs ≠ [] → ys = [] → Q (.ref a) H) ∧ (xs ≠ [] → ys ≠ [] → NewT Q H (xs ++ ys))
theorem op_catD : OpR X (binaryOp .Add) (rCatD X.K) := by
  rintro pins s σ H x y v u Q I rx ry ⟨a, b, xs, ys, rfl, rfl, ta, tb, z, q0, q1, q2⟩
  cases rx
  cases ry
  obtain ⟨is1, r1, p1, _⟩ := I.tuple ta
  obtain ⟨is2, r2, p2, _⟩ := I.tuple tb
  by_cases e : xs = []
  · subst e
    cases r1
    exact cat_tup0 p1 p2 ⟨.ref b, H, I, rfl, q0 rfl⟩
  · refine HT.cat_tup p1 p2 (fun w => e (r1.nil_iff.mp w)) (fun w => ⟨.ref a, H, I, rfl, q1 e (r2.nil_iff.mp w)⟩) (fun w => ?_) (by rw [← r1.length, ← r2.length]; exact z)
    exact ⟨.ref s.heap.objs.size, _, laidD (its := (is1 ++ is2).toArray) (t' := s.toks) I (fun b ob q => Heap.get?_push_of_some _ q) (Nat.le_refl _) (Heap.get?_push_size _ rfl) (r1.append r2) (by rw [List.length_append]; exact z), rfl, q2 e (fun w' => w (r2.nil_iff.mpr w')) _ _ (tupO_seq _) (I.hok.fresh (Nat.le_refl _))⟩
def rSlD (K : PySem.W.Frag) : V → Option Int → Option Int → Hp → VK → Prop := fun x lo hi H Q => ∃ a xs, x = .ref a ∧ SqT K H a xs ∧
  (HT.sIx xs.length 0 lo = 0 ∧ HT.sIx xs.length xs.length hi = xs.length → Q (.ref a) H) ∧ (¬ (HT.sIx xs.length 0 lo = 0 ∧ HT.sIx xs.length xs.length hi = xs.length) → NewT Q H (cutV xs lo hi))
theorem sl_tupD : SlR X (rSlD X.K) := by
  rintro pins s σ H x v vl vu lo hi sl Q I rx hs pl pu ⟨a, xs, rfl, tx, q1, q2⟩
  cases rx
  obtain ⟨its, r, ht, z⟩ := I.tuple tx
  have len : its.toArray.size = xs.length := by rw [List.size_toArray]; exact r.length.symm
  refine ⟨"tuple", _, slot_tuple_getitem.lookup, ht.typeIs, ?_⟩
  by_cases w : HT.sIx xs.length 0 lo = 0 ∧ HT.sIx xs.length xs.length hi = xs.length
  · exact getItem_tuple_whole ht hs pl pu (by rw [len]; exact w) ⟨.ref a, H, I, rfl, q1 w⟩
  · refine HT.getItem_tuple_cut ht hs pl pu (by rw [len]; exact w) ?_ (by rw [len]; exact z)
    rw [len]
    exact ⟨.ref s.heap.objs.size, _, laidD (t' := s.toks) I (fun b ob q => Heap.get?_push_of_some _ q) (Nat.le_refl _) (Heap.get?_push_size _ rfl) ((r.drop (HT.sIx xs.length 0 lo)).take (HT.sIx xs.length xs.length hi - HT.sIx xs.length 0 lo)) (Nat.le_trans (cutV_length xs lo hi) z), rfl, q2 w _ _ (tupO_seq _) (I.hok.fresh (Nat.le_refl _))⟩
def rTplD (K : PySem.W.Frag) : List V → Hp → VK → Prop := fun xs H Q => ∃ p ys, xs = [.ref p] ∧ ((SqL K H p ys ∧ NewT Q H ys) ∨ (SqT K H p ys ∧ Q (.ref p) H))
theorem call_tplD : CallR X (.type "tuple") (rTplD X.K) := by
  rintro pins s σ H xs us Q I r ⟨p, ys, rfl, h⟩
  obtain ⟨u, rfl, rx⟩ := vals1 r
  cases rx
  rcases h with ⟨tq, q⟩ | ⟨tq, q⟩
  · obtain ⟨its, r', pl, z⟩ := I.list tq
    have len := r'.length
    refine call_tuple_list pl.isList (fun g kp => ?_) (by simp only [List.size_toArray] <;> omega)
    have I1 : L2.Inv X pins σ H { s with heap := g } := I.kept (t' := s.toks) kp
    exact ⟨.ref g.objs.size, _, laidD (s := { s with heap := g }) (its := its.toArray) (t' := s.toks) I1 (fun b o e => Heap.get?_push_of_some _ e) (Nat.le_refl _) (Heap.get?_push_size _ rfl) r' z, rfl, q _ _ (tupO_seq _) (I1.hok.fresh (Nat.le_refl _))⟩
  · obtain ⟨its, r', pl, z⟩ := I.tuple tq
    exact call_tuple_same pl ⟨.ref p, H, I, rfl, q⟩
def rDvmD : List V → Hp → VK → Prop := fun xs H Q => ∃ i j, xs = [.int i, .int j] ∧ CDiv i j ∧ NewT Q H [.int (i / j), .int (i % j)]
theorem call_dvmD : CallR X (.builtin "divmod") rDvmD := by
  rintro pins s σ H xs us Q I r ⟨i, j, rfl, ⟨c1, c2⟩, q⟩
  obtain ⟨u, w', rfl, ⟨t, rfl⟩, ⟨t', rfl⟩⟩ := vals2 r
  refine divmod_int (by omega) ?_ (.inl (PyProof.noPylong_small (by omega)))
  rw [Int.fdiv_eq_ediv_of_nonneg i (by omega), Int.fmod_eq_emod_of_nonneg i (by omega)]
  exact ⟨.ref s.heap.objs.size, _, laidD (its := #[.int (i / j) s.toks, .int (i % j) (s.toks + 1)]) (t' := s.toks + 1 + 1) (vs := [.int (i / j), .int (i % j)]) I (fun b o e => Heap.get?_push_of_some _ e) (Nat.le_refl _) (Heap.get?_push_size s.heap rfl) (.cons ⟨_, rfl⟩ (.cons ⟨_, rfl⟩ .nil)) (by simp only [List.length_cons, List.length_nil]; rw [sizeLine_eq]; decide), rfl, q _ _ (tupO_seq _) (I.hok.fresh (Nat.le_refl _))⟩
end
end Fw

set_option Elab.async false
set_option linter.all false
set_option maxRecDepth 100000
set_option maxHeartbeats 2000000
set_option autoImplicit false
namespace Fw
open PySem PySem.Spec L2

/-! ### reading one by the other -/
section
variable {X : Cx}
theorem pe_of {e : Expr} {t t' : TE} (h : PE X e t) (i : ∀ σ H Q, t' σ H Q → t σ H Q) : PE X e t' := ⟨fun pins s σ H Q I q => h.run pins s σ H Q I (i σ H Q q)⟩
theorem pt_of {e : Expr} {t t' : TT} (h : PT X e t) (i : ∀ σ H Q, t' σ H Q → t σ H Q) : PT X e t' := ⟨fun pins s σ H Q I q => h.run pins s σ H Q I (i σ H Q q)⟩
theorem pw_of {e : Expr} {t t' : TT} (h : PW X e t) (i : ∀ σ H Q, t' σ H Q → t σ H Q) : PW X e t' := ⟨fun wh pins s σ H Q I q => h.run wh pins s σ H Q I (i σ H Q q)⟩
theorem pa_of {es : List Expr} {t t' : TA} (h : PA X es t) (i : ∀ σ H Q, t' σ H Q → t σ H Q) : PA X es t' := ⟨fun pos pins s σ H Q I q => h.run pos pins s σ H Q I (i σ H Q q)⟩
theorem ps_of {st : Stmt} {t t' : TS} (h : PS X st t) (i : ∀ D σ H, t' D σ H → t D σ H) : PS X st t' := ⟨fun pins s σ H D I q => h.run pins s σ H D I (i D σ H q)⟩
theorem pss_of {st : List Stmt} {t t' : TS} (h : PSs X st t) (i : ∀ D σ H, t' D σ H → t D σ H) : PSs X st t' := ⟨fun pins s σ H D I q => h.run pins s σ H D I (i D σ H q)⟩
end

/-! ### names and constants -/
def sVar (i : Nat) : Sx := fun e h => match e[i]? with
  | some (some x) => .ok x h
  | _ => .bad
def sK (x : Va) : Sx := fun _ h => .ok x h
section
variable {X : Cx} {C : Ct} {W : WX}
theorem se_var (i : Nat) {x : Str} {pos : Pos} (hN : X.N[i]? = some x := by rfl) (hv : Vis X.env.scope x := by first | exact Or.inl rfl | exact Or.inr (Or.inl rfl) | exact Or.inr (Or.inr rfl)) (hd : (x == ("__debug__" : Str)) = false := by decide)
    (hcd : (x == ("__classdict__" : Str)) = false := by decide) : PE X (.Name x pos) (tE C W (sVar i)) := by
  refine pe_of (pe_var hN hv hd hcd) fun σ H Q ⟨ρ, e, h, hs, hr, p⟩ => ?_
  unfold sVar at p
  split at p
  · rename_i y hy
    obtain ⟨v, e1, r⟩ := hs.2 i y hy
    exact ⟨v, e1, p ρ H v .refl hr r⟩
  · exact p.elim
theorem tC_of {x : Va} {v : V} (hv : ∀ ρ H, Rp C ρ H x v) : ∀ σ H Q, tE C W (sK x) σ H Q → tC v σ H Q := fun σ H Q ⟨ρ, e, h, hs, hr, p⟩ => p ρ H v .refl hr (hv ρ H)
theorem se_int {i : Int} {j pos} : PE X (.Constant (.int i) j pos) (tE C W (sK (.int i))) := pe_of pe_int (tC_of fun _ _ => .int i)
theorem se_bl {b : Bool} {j pos} : PE X (.Constant (.bool b) j pos) (tE C W (sK (.bl b))) := pe_of pe_bl (tC_of fun _ _ => .bl b)
theorem se_str {x : Str} {j pos} (l : List Nat) (hl : (⟨l.toArray⟩ : Str) = x := by rfl) : PE X (.Constant (.str x) j pos) (tE C W (sK (.str l))) := by
  subst hl
  exact pe_of pe_str (tC_of fun _ _ => .str l)
/-- a module's whole number -/
theorem se_gint {x : Str} {i : Int} {t : Tok} {pos : Pos} (hg : Gl X x) (hm : X.mg x = some (.int i t)) (hd : (x == ("__debug__" : Str)) = false := by decide) : PE X (.Name x pos) (tE C W (sK (.int i))) :=
  pe_of (pe_glob (v := .int i) hg hm ⟨t, rfl⟩ hd) (tC_of fun _ _ => .int i)
/-- a built-in type as a value -/
theorem se_ty {x : Str} {n : String} {pos : Pos} (hg : Gl X x) (hm : X.mg x = none) (hv : bootBuiltins x = some (.type n) := by decide +kernel) (hn : x ≠ "__name__" := by decide) (hd : (x == ("__debug__" : Str)) = false := by decide) : PE X (.Name x pos) (tE C W (sK (.ty n))) :=
  pe_of (pe_bltn (v := .ty n) hg hm hv rfl hn hd) (tC_of fun _ _ => .ty n)
end

/-! ### operators by values -/
def VOp (C : Ct) (r : R2) (k : Va → Va → Hs → Rs Va) : Prop := ∀ (ρ : List Addr) (H : Hp) (h : Hs) (x y : Va) (v u : V) (W : XK) (Q : VK), HR C ρ h H → Rp C ρ H x v → Rp C ρ H y u → Po C (Rp C) W Q ρ H (k x y h) → r v u H Q
def VCa (C : Ct) (r : List V → Hp → VK → Prop) (k : List Va → Hs → Rs Va) : Prop := ∀ (ρ : List Addr) (H : Hp) (h : Hs) (x : List Va) (v : List V) (W : XK) (Q : VK), HR C ρ h H → RpL C ρ H x v → Po C (Rp C) W Q ρ H (k x h) → r v H Q
def s2 (k : Va → Va → Hs → Rs Va) (a b : Sx) : Sx := bnd a fun x => bnd b fun y => vl (k x y)
def s1 (k : Va → Hs → Rs Va) (a : Sx) : Sx := bnd a fun x => vl (k x)
section
variable {C : Ct} {W : WX}
theorem t2_of {r : R2} {k : Va → Va → Hs → Rs Va} {a b : Sx} (hv : VOp C r k) : ∀ σ H Q, tE C W (s2 k a b) σ H Q → tOp r (tE C W a) (tE C W b) σ H Q := fun σ H Q h =>
  tX_bnd h fun ρ H1 e h1 x v hs hr rv p => Po_bnd hs hr p fun ρ2 H2 h2 y u e2 _ hr2 ru p2 => hv ρ2 H2 h2 x y v u _ Q hr2 (rv.mono e2) ru p2
theorem tC_call {r : List V → Hp → VK → Prop} {k : List Va → Hs → Rs Va} {a : Sm (List Va)} (hv : VCa C r k) : ∀ σ H Q, tE C W (bnd a fun x => vl (k x)) σ H Q → tCB r (tAr C W a) σ H Q := fun σ H Q h =>
  tX_bnd h fun ρ H1 e h1 x v hs hr rv p => hv ρ H1 h1 x v _ Q hr rv p
/-- argument lists -/
def sNil : Sm (List Va) := fun _ h => .ok [] h
def sCons (a : Sx) (r : Sm (List Va)) : Sm (List Va) := bnd a fun x => bnd r fun xs => fun _ h => .ok (x :: xs) h
theorem tNil_of : ∀ σ H Q, tAr C W sNil σ H Q → tNil σ H Q := fun σ H Q ⟨ρ, e, h, hs, hr, p⟩ => p ρ H [] .refl hr .nil
theorem tCons_of {a : Sx} {r : Sm (List Va)} : ∀ σ H Q, tAr C W (sCons a r) σ H Q → tCons (tE C W a) (tAr C W r) σ H Q := fun σ H Q h =>
  tX_bnd h fun ρ H1 e h1 x v hs hr rv p => Po_bnd hs hr p fun ρ2 H2 h2 xs vs e2 _ hr2 rvs p2 => p2 ρ2 H2 _ .refl hr2 (.cons (rv.mono e2) rvs)
end
section
variable {X : Cx} {C : Ct} {W : WX} {a b : Expr} {fa fb : Sx} {pos : Pos} {es : List Expr} {fr : Sm (List Va)}
theorem sa_nil : PA X [] (tAr C W sNil) := pa_of pa_nil tNil_of
theorem sa_cons (ha : PE X a (tE C W fa)) (hr : PA X es (tAr C W fr)) (hs : starEach (a :: es) X.env = (false, eval a X.env) :: starEach es X.env := by rfl) : PA X (a :: es) (tAr C W (sCons fa fr)) := pa_of (pa_cons ha hr hs) tCons_of
theorem se_op {op : Operator} {r : R2} {k : Va → Va → Hs → Rs Va} (ho : OpR X (binaryOp op) r) (hv : VOp C r k) (ha : PE X a (tE C W fa)) (hb : PE X b (tE C W fb)) : PE X (.BinOp a op b pos) (tE C W (s2 k fa fb)) := pe_of (pe_op ho ha hb) (t2_of hv)
theorem se_cmp {op : CmpOp} {r : R2} {k : Va → Va → Hs → Rs Va} (ho : OpR X (compareOp op) r) (hv : VOp C r k) (ha : PE X a (tE C W fa)) (hb : PE X b (tE C W fb)) (hm : behindInMarks op b = false := by first | exact nomark _ | rfl) : PE X (.Compare a [op] [b] pos) (tE C W (s2 k fa fb)) :=
  pe_of (pe_cmpR ho ha hb hm) (t2_of hv)
end

/-! ### the operators -/
@[simp] def okI (i : Int) : Hs → Rs Va := fun h => .ok (.int i) h
@[simp] def okB (b : Bool) : Hs → Rs Va := fun h => .ok (.bl b) h
/-- a new list -/
def newL (xs : List Va) : Hs → Rs Va := fun h => if xs.length ≤ 16777216 then .ok (.loc h.length) (h ++ [.lst xs]) else .bad
theorem line_eq : (sizeLine : Nat) = 16777216 := by decide
section
variable {C : Ct}
theorem Po_ok {α β : Type} {rel : List Addr → Hp → α → β → Prop} {W : XK} {Q : β → Hp → Prop} {ρ : List Addr} {H : Hp} {x : α} {h : Hs} {v : β} (p : Po C rel W Q ρ H (.ok x h)) (hr : HR C ρ h H) (rv : rel ρ H x v) : Q v H := p ρ H v .refl hr rv
/-- a new list comes -/
theorem newL_of {W : XK} {Q : VK} {ρ : List Addr} {H : Hp} {h : Hs} {xs : List Va} {vs : List V} (hr : HR C ρ h H) (r : RpL C ρ H xs vs) (p : Po C (Rp C) W Q ρ H (newL xs h)) : vs.length ≤ sizeLine ∧ ∀ q, H q = none → Q (.ref q) (upd H q (.lst vs)) := by
  unfold newL at p
  split at p
  · rename_i hl
    refine ⟨by rw [← r.length, line_eq]; exact hl, fun q hq => ?_⟩
    obtain ⟨e, hr', rl⟩ := hr.alloc hq r
    exact p _ _ _ e hr' rl
  · exact p.elim
theorem str_len (x : List Nat) : (⟨x.toArray⟩ : Str).length = x.length := by show x.toArray.size = _; simp
theorem str_app (x y : List Nat) : (⟨x.toArray⟩ : Str) ++ (⟨y.toArray⟩ : Str) = ⟨(x ++ y).toArray⟩ := by
  show Str.append _ _ = _
  simp [Str.append]

@[simp] def kAdd : Va → Va → Hs → Rs Va
  | .int i, .int j => okI (i + j)
  | .str x, .str y => fun h => if x.length + y.length ≤ 16777216 then .ok (.str (x ++ y)) h else .bad
  | .loc n, .loc m => fun h => match h[n]?, h[m]? with
    | some (.lst xs), some (.lst ys) => newL (xs ++ ys) h
    | _, _ => .bad
  | .tup xs, .tup ys => fun h => if xs ≠ [] ∧ xs.length + ys.length ≤ 16777216 then .ok (.tup (xs ++ ys)) h else .bad
  | _, _ => fun _ => .bad
end
end Fw

set_option Elab.async false
set_option linter.all false
set_option maxRecDepth 100000
set_option maxHeartbeats 2000000
set_option autoImplicit false
namespace Fw
open PySem PySem.Spec L2
abbrev ctOf (X : Cx) : Ct := ⟨X.K, X.mg⟩
def OpK (X : Cx) (f : Value → Value → Sem Value) (k : Va → Va → Hs → Rs Va) : Prop := ∃ r, OpR X f r ∧ VOp (ctOf X) r k
def CaK (X : Cx) (f : Value) (k : List Va → Hs → Rs Va) : Prop := ∃ r, CallR X f r ∧ VCa (ctOf X) r k
section
variable {X : Cx} {W : WX} {a b : Expr} {fa fb : Sx} {pos : Pos} {k : Va → Va → Hs → Rs Va}
theorem se_bin {op : Operator} (ho : OpK X (binaryOp op) k) (ha : PE X a (tE (ctOf X) W fa)) (hb : PE X b (tE (ctOf X) W fb)) : PE X (.BinOp a op b pos) (tE (ctOf X) W (s2 k fa fb)) := by
  obtain ⟨r, h1, h2⟩ := ho
  exact se_op h1 h2 ha hb
theorem se_com {op : CmpOp} (ho : OpK X (compareOp op) k) (ha : PE X a (tE (ctOf X) W fa)) (hb : PE X b (tE (ctOf X) W fb)) (hm : behindInMarks op b = false := by first | exact nomark _ | rfl) : PE X (.Compare a [op] [b] pos) (tE (ctOf X) W (s2 k fa fb)) := by
  obtain ⟨r, h1, h2⟩ := ho
  exact se_cmp h1 h2 ha hb hm
end
@[simp] def kSub : Va → Va → Hs → Rs Va
  | .int i, .int j => okI (i - j)
  | _, _ => fun _ => .bad
/-- the lists of whole products are kept within the line -/
def kMul : Va → Va → Hs → Rs Va
  | .int i, .int j => fun h => if (-(2 ^ 64) < i ∧ i < 2 ^ 64) ∨ (-(2 ^ 64) < j ∧ j < 2 ^ 64) then .ok (.int (i * j)) h else .bad
  | .loc n, .int j => fun h => match h[n]? with
    | some (.lst xs) => if -(2 ^ 63) ≤ j ∧ j < 2 ^ 63 ∧ xs.length * j.toNat ≤ 16777216 then newL (List.replicate j.toNat xs).flatten h else .bad
    | _ => .bad
  | _, _ => fun _ => .bad
def kFdv : Va → Va → Hs → Rs Va
  | .int i, .int j => fun h => if 0 < j ∧ j < 1073741824 then .ok (.int (i / j)) h else .bad
  | _, _ => fun _ => .bad
def kMod : Va → Va → Hs → Rs Va
  | .int i, .int j => fun h => if 0 < j then .ok (.int (i % j)) h else .bad
  | _, _ => fun _ => .bad
def kPow : Va → Va → Hs → Rs Va
  | .int i, .int j => fun h => if 0 ≤ j ∧ j ≤ 1000000 ∧ i.natAbs < 2 ^ 64 then .ok (.int (i ^ j.toNat)) h else .bad
  | _, _ => fun _ => .bad
@[simp] def kLt : Va → Va → Hs → Rs Va
  | .int i, .int j => okB (decide (i < j))
  | .str x, .str y => okB (decide (x < y))
  | _, _ => fun _ => .bad
@[simp] def kLe : Va → Va → Hs → Rs Va
  | .int i, .int j => okB (decide (i ≤ j))
  | _, _ => fun _ => .bad
@[simp] def kGt : Va → Va → Hs → Rs Va
  | .int i, .int j => okB (decide (j < i))
  | _, _ => fun _ => .bad
@[simp] def kGe : Va → Va → Hs → Rs Va
  | .int i, .int j => okB (decide (j ≤ i))
  | _, _ => fun _ => .bad
section
variable {X : Cx}
theorem vI0 {g : Int → Int → V} {g' : Int → Int → Va} {k : Va → Va → Hs → Rs Va} (hg : ∀ ρ H i j, Rp (ctOf X) ρ H (g' i j) (g i j)) (hk : ∀ x y h, (∃ i j, x = .int i ∧ y = .int j ∧ k x y h = .ok (g' i j) h) ∨ k x y h = .bad) : VOp (ctOf X) (rI0 g) k := by
  intro ρ H h x y v u W Q hr rx ry p
  rcases hk x y h with ⟨i, j, rfl, rfl, e⟩ | e
  · cases rx; cases ry
    rw [e] at p
    exact ⟨i, j, rfl, rfl, Po_ok p hr (hg ρ H i j)⟩
  · rw [e] at p; exact p.elim
theorem vI {Cn : Int → Int → Prop} {g : Int → Int → V} {g' : Int → Int → Va} {k : Va → Va → Hs → Rs Va} (hg : ∀ ρ H i j, Rp (ctOf X) ρ H (g' i j) (g i j)) (hk : ∀ x y h, (∃ i j, x = .int i ∧ y = .int j ∧ Cn i j ∧ k x y h = .ok (g' i j) h) ∨ k x y h = .bad) : VOp (ctOf X) (rI Cn g) k := by
  intro ρ H h x y v u W Q hr rx ry p
  rcases hk x y h with ⟨i, j, rfl, rfl, c, e⟩ | e
  · cases rx; cases ry
    rw [e] at p
    exact ⟨i, j, rfl, rfl, c, Po_ok p hr (hg ρ H i j)⟩
  · rw [e] at p; exact p.elim
/-- a value-level case: what is not served is bad -/
theorem ks_sub : OpK X (binaryOp .Sub) kSub := ⟨_, op_sub, vI0 (fun _ _ _ _ => .int _) fun x y h => by
  cases x <;> cases y <;> first | exact .inr rfl | exact .inl ⟨_, _, rfl, rfl, rfl⟩⟩
theorem ks_fdv : OpK X (binaryOp .FloorDiv) kFdv := ⟨_, op_fdiv, vI (g' := fun i j => .int (i / j)) (fun _ _ _ _ => .int _) fun x y h => by
  cases x <;> cases y <;> first
    | exact .inr rfl
    | (rename_i i j
       by_cases c : 0 < j ∧ j < 1073741824
       · exact .inl ⟨i, j, rfl, rfl, c, if_pos c⟩
       · exact .inr (if_neg c))⟩
theorem ks_mod : OpK X (binaryOp .Mod) kMod := ⟨_, op_mod, vI (g' := fun i j => .int (i % j)) (fun _ _ _ _ => .int _) fun x y h => by
  cases x <;> cases y <;> first
    | exact .inr rfl
    | (rename_i i j
       by_cases c : 0 < j
       · exact .inl ⟨i, j, rfl, rfl, c, if_pos c⟩
       · exact .inr (if_neg c))⟩
theorem ks_pow : OpK X (binaryOp .Pow) kPow := ⟨_, op_pow, vI (g' := fun i j => .int (i ^ j.toNat)) (fun _ _ _ _ => .int _) fun x y h => by
  cases x <;> cases y <;> first
    | exact .inr rfl
    | (rename_i i j
       by_cases c : 0 ≤ j ∧ j ≤ 1000000 ∧ i.natAbs < 2 ^ 64
       · exact .inl ⟨i, j, rfl, rfl, c, if_pos c⟩
       · exact .inr (if_neg c))⟩
theorem ks_le : OpK X (compareOp .LtE) kLe := ⟨_, op_le, vI0 (fun _ _ _ _ => .bl _) fun x y h => by
  cases x <;> cases y <;> first | exact .inr rfl | exact .inl ⟨_, _, rfl, rfl, rfl⟩⟩
theorem ks_gt : OpK X (compareOp .Gt) kGt := ⟨_, op_gt, vI0 (fun _ _ _ _ => .bl _) fun x y h => by
  cases x <;> cases y <;> first | exact .inr rfl | exact .inl ⟨_, _, rfl, rfl, rfl⟩⟩
theorem ks_ge : OpK X (compareOp .GtE) kGe := ⟨_, op_ge, vI0 (fun _ _ _ _ => .bl _) fun x y h => by
  cases x <;> cases y <;> first | exact .inr rfl | exact .inl ⟨_, _, rfl, rfl, rfl⟩⟩
theorem ks_lt : OpK X (compareOp .Lt) kLt := ⟨_, OpR.or op_lt op_lt_str, by
  intro ρ H h x y v u W Q hr rx ry p
  cases x <;> cases y <;> first
    | exact False.elim p
    | (cases rx; cases ry; exact .inl ⟨_, _, rfl, rfl, Po_ok p hr (.bl _)⟩)
    | (cases rx; cases ry; exact .inr ⟨_, _, rfl, rfl, Po_ok p hr (.bl _)⟩)⟩
theorem ks_mul : OpK X (binaryOp .Mult) kMul := ⟨_, OpR.or op_mul op_rep, by
  intro ρ H h x y v u W Q hr rx ry p
  cases x <;> cases y <;> first
    | exact False.elim p
    | (rename_i i j
       cases rx; cases ry
       have p : Po _ _ _ _ _ _ (if _ then _ else _) := p
       split at p
       · rename_i c
         exact .inl ⟨i, j, rfl, rfl, c, Po_ok p hr (.int _)⟩
       · exact p.elim)
    | (rename_i n j
       cases ry
       have p : Po _ _ _ _ _ _ (match h[n]? with | some (.lst xs) => _ | _ => _) := p
       split at p
       · rename_i xs hn
         split at p
         · rename_i c
           obtain ⟨a, vs, rfl, ha, hl, rl⟩ := hr.ls_ hn rx
           have e := rl.length
           have rr : RpL (ctOf X) ρ H (List.replicate j.toNat xs).flatten (List.replicate j.toNat vs).flatten := by
             generalize j.toNat = m
             induction m with
             | zero => exact .nil
             | succ m ih => rw [List.replicate_succ, List.replicate_succ, List.flatten_cons, List.flatten_cons]; exact rl.append ih
           obtain ⟨q1, q2⟩ := newL_of hr rr p
           exact .inr ⟨a, j, vs, rfl, rfl, hl, c.1, c.2.1, by rw [← e, line_eq]; exact c.2.2, q2⟩
         · exact p.elim
       · exact p.elim)⟩
theorem ks_add : OpK X (binaryOp .Add) kAdd := ⟨_, OpR.or (OpR.or op_add op_add_str) (OpR.or op_cat op_catD), by
  intro ρ H h x y v u W Q hr rx ry p
  cases x <;> cases y <;> first
    | exact False.elim p
    | (cases rx; cases ry; exact .inl (.inl ⟨_, _, rfl, rfl, Po_ok p hr (.int _)⟩))
    | (rename_i x y
       cases rx; cases ry
       have p : Po _ _ _ _ _ _ (if x.length + y.length ≤ 16777216 then _ else _) := p
       split at p
       · rename_i c
         refine .inl (.inr ⟨_, _, rfl, rfl, by rw [str_len, str_len, line_eq]; exact c, ?_⟩)
         rw [str_app]
         exact Po_ok p hr (.str _)
       · exact p.elim)
    | (rename_i n m
       have p : Po _ _ _ _ _ _ (match h[n]?, h[m]? with | some (.lst xs), some (.lst ys) => _ | _, _ => _) := p
       split at p
       · rename_i xs ys hn hm
         obtain ⟨a, vs, rfl, ha, hl, rl⟩ := hr.ls_ hn rx
         obtain ⟨b, us, rfl, hb, hl2, rl2⟩ := hr.ls_ hm ry
         obtain ⟨q1, q2⟩ := newL_of hr (rl.append rl2) p
         exact .inr (.inl ⟨a, b, vs, us, rfl, rfl, hl, hl2, by rw [List.length_append] at q1; exact q1, q2⟩)
       · exact p.elim)
    | (rename_i xs ys
       cases rx with
       | tup h1 r1 =>
       cases ry with
       | tup h2 r2 =>
       rename_i vs a us b
       have p : Po _ _ _ _ _ _ (if xs ≠ [] ∧ xs.length + ys.length ≤ 16777216 then _ else _) := p
       split at p
       · rename_i c
         refine .inr (.inr ⟨a, b, vs, us, rfl, rfl, h1.sq, h2.sq, by rw [← r1.length, ← r2.length, line_eq]; exact c.2, fun e => ?_, fun _ e => ?_, fun _ _ q o to hq => ?_⟩)
         · subst e
           have := r1.length
           exact absurd (List.eq_nil_of_length_eq_zero (by simpa using this)) c.1
         · subst e
           have e2 : ys = [] := List.eq_nil_of_length_eq_zero (by have := r2.length; simpa using this)
           subst e2
           refine Po_ok p hr ?_
           rw [List.append_nil]
           exact .tup h1 r1
         · have e := ext_new (C := ctOf X) (ρ := ρ) (o := .frz o (.tup (vs ++ us))) hq
           exact p ρ _ _ e ⟨hr.len, hr.nd, fun n o a' hn ha' => by
             obtain ⟨w, hw⟩ := hr.sm_ ha'
             have q' := hr.ob n o a' hn ha'
             revert q'
             cases o with
             | lst zs => rintro ⟨ws, e1, e2⟩; exact ⟨ws, by rw [upd_ne (ne_of_none hw hq)]; exact e1, e2.mono e⟩
             | dct k => rintro ⟨ws, e1, e2⟩; exact ⟨ws, by rw [upd_ne (ne_of_none hw hq)]; exact e1, e2.mono e⟩⟩ (.tup (SqD.new to) ((r1.append r2).mono e))
       · exact p.elim)⟩
end
end Fw

set_option Elab.async false
set_option linter.all false
set_option maxRecDepth 100000
set_option maxHeartbeats 2000000
set_option autoImplicit false
namespace Fw
open PySem PySem.Spec L2

section
variable {C : Ct} {ρ : List Addr} {H : Hp} {h : Hs}
/-- a new tuple: nothing is tracked of it -/
theorem HR.tup_ (hr : HR C ρ h H) {q : Addr} {o : HO} (hq : H q = none) : HR C ρ h (upd H q o) := by
  have e := ext_new (C := C) (ρ := ρ) (o := o) hq
  refine ⟨hr.len, hr.nd, fun n ob a hn ha => ?_⟩
  obtain ⟨w, hw⟩ := hr.sm_ ha
  have q' := hr.ob n ob a hn ha
  revert q'
  cases ob with
  | lst zs => rintro ⟨ws, e1, e2⟩; exact ⟨ws, by rw [upd_ne (ne_of_none hw hq)]; exact e1, e2.mono e⟩
  | dct k => rintro ⟨ws, e1, e2⟩; exact ⟨ws, by rw [upd_ne (ne_of_none hw hq)]; exact e1, e2.mono e⟩
theorem Po_tup {W : XK} {Q : VK} {xs : List Va} {vs : List V} (hr : HR C ρ h H) (r : RpL C ρ H xs vs) (p : Po C (Rp C) W Q ρ H (.ok (.tup xs) h)) : NewT Q H vs := fun q o to hq =>
  p ρ _ _ (ext_new hq) (hr.tup_ hq) (.tup (SqD.new to) (r.mono (ext_new hq)))
end

/-! ### displays -/
def sTup (a : Sm (List Va)) : Sx := bnd a fun xs _ h => if xs.length ≤ 16777216 then .ok (.tup xs) h else .bad
def sLst (a : Sm (List Va)) : Sx := bnd a fun xs _ h => newL xs h
section
variable {X : Cx} {W : WX} {es : List Expr} {f : Sm (List Va)} {pos : Pos}
theorem se_tup {x1} (h : PA X es (tAr (ctOf X) W f)) : PE X (.Tuple es x1 pos) (tE (ctOf X) W (sTup f)) := pe_of (pe_tupD h) fun σ H Q h => tX_bnd h fun ρ H1 e h1 xs vs hs hr rv p => by
  split at p
  · rename_i hl
    exact ⟨by rw [← rv.length, line_eq]; exact hl, Po_tup hr rv p⟩
  · exact p.elim
theorem se_lst (h : PA X es (tAr (ctOf X) W f)) : PE X (.List es pos) (tE (ctOf X) W (sLst f)) := pe_of (pe_lst h) fun σ H Q h => tX_bnd h fun ρ H1 e h1 xs vs hs hr rv p => newL_of hr rv p
end

/-! ### data read to any depth -/
def mapO {α β : Type} (f : α → Option β) : List α → Option (List β)
  | [] => some []
  | x :: xs => match f x, mapO f xs with
    | some y, some ys => some (y :: ys)
    | _, _ => none
def rdV (h : Hs) : Nat → Va → Option PyData
  | 0, _ => none
  | _ + 1, .non => some .none
  | _ + 1, .bl b => some (.bool b)
  | _ + 1, .int i => some (.int i)
  | _ + 1, .str x => some (.str ⟨x.toArray⟩)
  | n + 1, .tup xs => (mapO (rdV h n) xs).map .tuple
  | n + 1, .ros xs => (mapO (rdV h n) xs).map .list
  | n + 1, .loc m => match h[m]? with
    | some (.lst xs) => (mapO (rdV h n) xs).map .list
    | _ => none
  | _ + 1, .fn _ => none
  | _ + 1, .ty _ => none
  | _ + 1, .rg _ _ _ => none
  | n + 1, .tpw xs => (mapO (rdV h n) xs).map .tuple
theorem mapO_dp {C : Ct} {ρ : List Addr} {H : Hp} {f : Va → Option PyData} (hf : ∀ x v d, Rp C ρ H x v → f x = some d → Dp C.K H v d) : ∀ (xs : List Va) (vs : List V) (ds : List PyData), RpL C ρ H xs vs → mapO f xs = some ds → DpAll C.K H vs ds
  | [], _, _, .nil, e => by cases e; exact .nil
  | x :: xs, _, _, .cons r rs, e => by
    unfold mapO at e
    split at e
    · rename_i y ys h1 h2
      cases e
      exact .cons (hf x _ _ r h1) (mapO_dp hf xs _ _ rs h2)
    · cases e
theorem rdV_dp {C : Ct} {ρ : List Addr} {H : Hp} {h : Hs} (hr : HR C ρ h H) : ∀ (n : Nat) (x : Va) (v : V) (d : PyData), Rp C ρ H x v → rdV h n x = some d → Dp C.K H v d
  | 0, _, _, _, _, e => by cases e
  | _ + 1, _, _, _, .non, e => by cases e; exact .non
  | _ + 1, _, _, _, .bl b, e => by cases e; exact .bl b
  | _ + 1, _, _, _, .int b, e => by cases e; exact .int b
  | _ + 1, _, _, _, .str b, e => by cases e; exact .str _
  | n + 1, _, _, _, .tup (xs := xs) hq rs, e => by
    unfold rdV at e
    cases q : mapO (rdV h n) xs with
    | none => rw [q] at e; cases e
    | some ds => rw [q] at e; cases e; exact .tup hq.sq (mapO_dp (rdV_dp hr n) _ _ _ rs q)
  | n + 1, _, _, _, .ros (xs := xs) hq rs, e => by
    unfold rdV at e
    cases q : mapO (rdV h n) xs with
    | none => rw [q] at e; cases e
    | some ds => rw [q] at e; cases e; exact .lst hq.sq (mapO_dp (rdV_dp hr n) _ _ _ rs q)
  | n + 1, _, _, _, .loc (n := m) hq, e => by
    unfold rdV at e
    split at e
    · rename_i xs hm
      obtain ⟨vs, e1, e2⟩ := hr.ob m _ _ hm hq
      cases q : mapO (rdV h n) xs with
      | none => rw [q] at e; cases e
      | some ds => rw [q] at e; cases e; exact .lst (SqL.of e1) (mapO_dp (rdV_dp hr n) _ _ _ e2 q)
    · cases e
  | _ + 1, _, _, _, .fn _, e => by cases e
  | _ + 1, _, _, _, .ty _, e => by cases e
  | _ + 1, _, _, _, .rg _, e => by cases e
  | n + 1, _, _, _, .tpw (xs := xs) hq rs, e => by
    unfold rdV at e
    cases q : mapO (rdV h n) xs with
    | none => rw [q] at e; cases e
    | some ds => rw [q] at e; cases e; exact .tup hq (mapO_dp (rdV_dp hr n) _ _ _ rs q)

def kEqD (neg : Bool) (x y : Va) (h : Hs) : Rs Va := match rdV h 24 x, rdV h 24 y with
  | some d, some e => if SeqAt.shaped d = true ∧ SeqAt.shaped e = true then .ok (.bl (if neg then !PyData.eqv d e else PyData.eqv d e)) h else .bad
  | _, _ => .bad
@[simp] def kEq : Va → Va → Hs → Rs Va
  | .int i, .int j => okB (decide (i = j))
  | .str x, .str y => okB (decide (x = y))
  | x, y => kEqD false x y
@[simp] def kNe : Va → Va → Hs → Rs Va
  | .int i, .int j => okB (!decide (i = j))
  | .str x, .str y => okB (!decide (x = y))
  | x, y => kEqD true x y
section
variable {X : Cx}
theorem str_eq {x y : List Nat} : decide ((V.str ⟨x.toArray⟩) = V.str ⟨y.toArray⟩) = decide (x = y) := by
  by_cases e : x = y
  · subst e; simp
  · rw [decide_eq_false e, decide_eq_false]
    intro q
    injection q with q
    injection q with q
    exact e (by simpa using congrArg Array.toList q)
theorem int_eq {i j : Int} : decide (V.int i = V.int j) = decide (i = j) := by
  by_cases e : i = j
  · subst e; simp
  · rw [decide_eq_false e, decide_eq_false]
    intro q
    injection q with q
    exact e q
theorem vEqD {neg : Bool} {r : R2} (hrD : ∀ x y H Q, (∃ d e, Dp X.K H x d ∧ Dp X.K H y e ∧ SeqAt.shaped d = true ∧ SeqAt.shaped e = true ∧ Q (.bl (if neg then !PyData.eqv d e else PyData.eqv d e)) H) → r x y H Q) : VOp (ctOf X) r (kEqD neg) := by
  intro ρ H h x y v u W Q hr rx ry p
  unfold kEqD at p
  split at p
  · rename_i d e hd he
    split at p
    · rename_i c
      exact hrD v u H Q ⟨d, e, rdV_dp hr 24 x v d rx hd, rdV_dp hr 24 y u e ry he, c.1, c.2, Po_ok p hr (.bl _)⟩
    · exact p.elim
  · exact p.elim
theorem ks_eq (hu : X.A.units + 64 < cLine) : OpK X (compareOp .Eq) kEq := ⟨_, OpR.or op_eq (op_eqD hu), by
  intro ρ H h x y v u W Q hr rx ry p
  have gen : Po (ctOf X) (Rp (ctOf X)) W Q ρ H (kEqD false x y h) → rEq v u H Q ∨ rEqD X.K v u H Q := fun p => .inr (vEqD (neg := false) (fun _ _ _ _ z => z) ρ H h x y v u W Q hr rx ry p)
  cases x <;> cases y <;> first
    | exact gen p
    | (cases rx; cases ry; refine .inl ⟨rfl, ?_⟩; rw [int_eq]; exact Po_ok p hr (.bl _))
    | (cases rx; cases ry; refine .inl ⟨rfl, ?_⟩; rw [str_eq]; exact Po_ok p hr (.bl _))⟩
theorem ks_ne (hu : X.A.units + 64 < cLine) : OpK X (compareOp .NotEq) kNe := ⟨_, OpR.or op_ne (op_neD hu), by
  intro ρ H h x y v u W Q hr rx ry p
  have gen : Po (ctOf X) (Rp (ctOf X)) W Q ρ H (kEqD true x y h) → rNe v u H Q ∨ rNeD X.K v u H Q := fun p => .inr (vEqD (neg := true) (fun _ _ _ _ z => z) ρ H h x y v u W Q hr rx ry p)
  cases x <;> cases y <;> first
    | exact gen p
    | (cases rx; cases ry; refine .inl ⟨rfl, ?_⟩; rw [int_eq]; exact Po_ok p hr (.bl _))
    | (cases rx; cases ry; refine .inl ⟨rfl, ?_⟩; rw [str_eq]; exact Po_ok p hr (.bl _))⟩
end
/-! ### identity: None, built-in types, truth values -/
@[simp] def kIs (neg : Bool) : Va → Va → Hs → Rs Va
  | .non, .non => okB (!neg)
  | .ty a, .ty b => okB (if neg then !decide (a = b) else decide (a = b))
  | .bl a, .bl b => okB (if neg then !decide (a = b) else decide (a = b))
  | _, .non => okB neg
  | _, _ => fun _ => .bad
section
variable {X : Cx}
theorem ks_is : OpK X (compareOp .Is) (kIs false) := ⟨_, OpR.or op_isN (OpR.or op_isTyB op_isBl), by
  intro ρ H h x y v u W Q hr rx ry p
  cases x <;> cases y <;> first
    | exact False.elim p
    | (cases rx; cases ry; exact .inr (.inl ⟨_, _, rfl, rfl, Po_ok p hr (.bl _)⟩))
    | (cases rx; cases ry; exact .inr (.inr ⟨_, _, rfl, rfl, Po_ok p hr (.bl _)⟩))
    | (cases rx <;> cases ry <;> exact .inl ⟨rfl, Po_ok p hr (.bl _)⟩)⟩
end

/-! ### items -/
def gIx : Va → Va → Hs → Option Va
  | .loc n, .int i, h => match h[n]? with
    | some (.lst xs) => atI xs i
    | _ => none
  | .ros xs, .int i, _ => atI xs i
  | .tup xs, .int i, _ => atI xs i
  | .tpw xs, .int i, _ => atI xs i
  | .str x, .int i, _ => if x.length ≤ 16777216 then (atI x i).map fun c => .str [c] else none
  | _, _, _ => none
def kIx (x y : Va) (h : Hs) : Rs Va := match gIx x y h with
  | some z => .ok z h
  | none => .bad
theorem atI_rel {C : Ct} {ρ : List Addr} {H : Hp} {xs : List Va} {vs : List V} (r : RpL C ρ H xs vs) {i : Int} {x : Va} (e : atI xs i = some x) : ∃ v, atI vs i = some v ∧ Rp C ρ H x v := by
  unfold atI at e ⊢
  rw [← r.length]
  cases q : ixN xs.length i with
  | none => rw [q] at e; cases e
  | some j =>
    rw [q] at e
    obtain ⟨v, h1, h2⟩ := r.get (i := j) e
    exact ⟨v, h1, h2⟩
section
variable {X : Cx} {W : WX} {a b : Expr} {fa fb : Sx} {pos : Pos}
theorem vIx : VOp (ctOf X) (rIx X.K) kIx := by
  intro ρ H h x y v u W Q hr rx ry p
  unfold kIx at p
  split at p
  · rename_i z hz
    cases x <;> cases y <;> first
      | (exact absurd hz (by intro q; cases q))
      | (rename_i n i
         cases ry
         have hz : (match h[n]? with | some (.lst xs) => atI xs i | _ => none) = some z := hz
         split at hz
         · rename_i xs hn
           obtain ⟨a, vs, rfl, ha, hl, rl⟩ := hr.ls_ hn rx
           obtain ⟨w, h1, h2⟩ := atI_rel rl hz
           exact .inl ⟨a, vs, i, w, rfl, rfl, SqL.of hl, h1, Po_ok p hr h2⟩
         · cases hz)
      | (rename_i xs i
         cases ry
         cases rx with
         | ros hq rl =>
         have hz : atI xs i = some z := hz
         obtain ⟨w, h1, h2⟩ := atI_rel rl hz
         exact .inl ⟨_, _, i, w, rfl, rfl, hq.sq, h1, Po_ok p hr h2⟩)
      | (rename_i xs i
         cases ry
         cases rx with
         | tup hq rl =>
         have hz : atI xs i = some z := hz
         obtain ⟨w, h1, h2⟩ := atI_rel rl hz
         exact .inr (.inl ⟨_, _, i, w, rfl, rfl, hq.sq, h1, Po_ok p hr h2⟩))
      | (rename_i xs i
         cases ry
         cases rx with
         | tpw hq rl =>
         have hz : atI xs i = some z := hz
         obtain ⟨w, h1, h2⟩ := atI_rel rl hz
         exact .inr (.inl ⟨_, _, i, w, rfl, rfl, hq, h1, Po_ok p hr h2⟩))
      | (rename_i s i
         cases ry
         cases rx
         have hz : (if s.length ≤ 16777216 then (atI s i).map fun c => Va.str [c] else none) = some z := hz
         split at hz
         · rename_i hl
           cases q : atI s i with
           | none => rw [q] at hz; cases hz
           | some c =>
             rw [q] at hz
             cases hz
             exact .inr (.inr ⟨_, i, c, rfl, rfl, by rw [str_len, line_eq]; exact hl, q, Po_ok p hr (.str [c])⟩)
         · cases hz)
  · exact p.elim
theorem se_ix (ha : PE X a (tE (ctOf X) W fa)) (hb : PE X b (tE (ctOf X) W fb)) (hs : PlainIx b := by exact fun _ _ => rfl) : PE X (.Subscript a b pos) (tE (ctOf X) W (s2 kIx fa fb)) := pe_of (pe_ix ix_seq ha hb hs) (t2_of vIx)
end

/-! ### slices -/
def sNo : Sm (Option Int) := fun _ h => .ok none h
def sSo (f : Sx) : Sm (Option Int) := bnd f fun x _ h => match x with
  | .int i => .ok (some i) h
  | _ => .bad
abbrev tOx (C : Ct) (W : WX) (f : Sm (Option Int)) : TO := tX C (fun _ _ a b => a = b) W f
def cutA {α : Type} (xs : List α) (lo hi : Option Int) : List α := (xs.drop (HT.sIx xs.length 0 lo)).take (HT.sIx xs.length xs.length hi - HT.sIx xs.length 0 lo)
def kSl : Va → Option Int → Option Int → Hs → Rs Va
  | .str x, lo, hi => fun h => if x.length ≤ 16777216 then .ok (.str (cutA x lo hi)) h else .bad
  | .loc n, lo, hi => fun h => match h[n]? with
    | some (.lst xs) => newL (cutA xs lo hi) h
    | _ => .bad
  | .ros xs, lo, hi => newL (cutA xs lo hi)
  | .tup xs, lo, hi => fun h => if HT.sIx xs.length 0 lo = 0 ∧ HT.sIx xs.length xs.length hi = xs.length then .bad else .ok (.tup (cutA xs lo hi)) h
  | _, _, _ => fun _ => .bad
def sSl (f : Sx) (lo hi : Sm (Option Int)) : Sx := bnd f fun x => bnd lo fun l => bnd hi fun u => vl (kSl x l u)
theorem cut_rel {C : Ct} {ρ : List Addr} {H : Hp} {xs : List Va} {vs : List V} (r : RpL C ρ H xs vs) (lo hi : Option Int) : RpL C ρ H (cutA xs lo hi) (cutV vs lo hi) := by
  unfold cutA cutV
  rw [← r.length]
  exact (r.drop _).take _
section
variable {X : Cx} {W : WX} {e : Expr} {lo hi : Option Expr} {fe : Sx} {fl fh : Sm (Option Int)} {pos p2 : Pos}
theorem so_none : PO X none (tOx (ctOf X) W sNo) := ⟨fun pins s σ H Q I ⟨ρ, e, h, hs, hr, p⟩ => po_none.run pins s σ H Q I (p ρ H none .refl hr rfl)⟩
theorem so_some (h : PE X e (tE (ctOf X) W fe)) : PO X (some e) (tOx (ctOf X) W (sSo fe)) := ⟨fun pins s σ H Q I q => (po_some h).run pins s σ H Q I (tX_bnd q fun ρ H1 e h1 x v hs hr rv p => by
  cases x <;> first
    | exact False.elim p
    | (cases rv; exact ⟨_, rfl, Po_ok p hr rfl⟩))⟩
theorem se_sl (he : PE X e (tE (ctOf X) W fe)) (hl : PO X lo (tOx (ctOf X) W fl)) (hh : PO X hi (tOx (ctOf X) W fh)) : PE X (.Subscript e (.Slice lo hi none p2) pos) (tE (ctOf X) W (sSl fe fl fh)) :=
  pe_of (pe_slice (SlR.or sl_list (SlR.or sl_str sl_tupD)) he hl hh) fun σ H Q h => tX_bnd h fun ρ H1 e h1 x v hs hr rv p => Po_bnd hs hr p fun ρ2 H2 h2 l l' e2 hs2 hr2 rl p2 => Po_bnd hs2 hr2 p2 fun ρ3 H3 h3 u u' e3 hs3 hr3 ru p3 => by
    subst rl ru
    have rv := rv.mono (e2.trans e3)
    cases x with
    | str x =>
      cases rv
      have p3 : Po _ _ _ _ _ _ (if x.length ≤ 16777216 then _ else _) := p3
      split at p3
      · rename_i hl
        refine .inr (.inl ⟨_, rfl, by rw [str_len, line_eq]; exact hl, ?_⟩)
        have e : cutS ⟨x.toArray⟩ l u = ⟨(cutA x l u).toArray⟩ := by unfold cutS cutA; rw [str_len]
        rw [e]
        exact Po_ok p3 hr3 (.str _)
      · exact p3.elim
    | loc n =>
      have p3 : Po _ _ _ _ _ _ (match h3[n]? with | some (.lst xs) => _ | _ => _) := p3
      split at p3
      · rename_i xs hn
        obtain ⟨a, vs, rfl, ha, hl, rl⟩ := hr3.ls_ hn rv
        exact .inl ⟨a, vs, rfl, SqL.of hl, (newL_of hr3 (cut_rel rl l u) p3).2⟩
      · exact p3.elim
    | ros xs =>
      cases rv with
      | ros hq rl => exact .inl ⟨_, _, rfl, hq.sq, (newL_of hr3 (cut_rel rl l u) p3).2⟩
    | tup xs =>
      cases rv with
      | tup hq rl =>
      have p3 : Po _ _ _ _ _ _ (if _ then _ else _) := p3
      split at p3
      · exact p3.elim
      · rename_i c
        exact .inr (.inr ⟨_, _, rfl, hq.sq, fun w => absurd (by rw [rl.length]; exact w) c, fun _ => Po_tup hr3 (cut_rel rl l u) p3⟩)
    | _ => exact p3.elim
end

/-! ### truth, tests, and, or, not -/
@[simp] def trA : Va → Hs → Option Bool
  | .non, _ => some false
  | .bl b, _ => some b
  | .int i, _ => some (i != 0)
  | .str x, _ => if x.length ≤ 16777216 then some ((x.length : Int) != 0) else none
  | .tup xs, _ => some (!xs.isEmpty)
  | .ros xs, _ => some (!xs.isEmpty)
  | .loc n, h => match h[n]? with
    | some (.lst xs) => some (!xs.isEmpty)
    | _ => none
  | _, _ => none
@[simp] def asB : Va → Option Bool
  | .bl b => some b
  | _ => none
/-- a test by truth; a test whose value is a truth value -/
def sTru (f : Sx) : Sm Bool := bnd f fun x _ h => match trA x h with
  | some b => .ok b h
  | none => .bad
def sBl (f : Sx) : Sm Bool := bnd f fun x _ h => match asB x with
  | some b => .ok b h
  | none => .bad
def sNot (t : Sm Bool) : Sm Bool := bnd t fun b _ h => .ok (!b) h
def sAnd (t u : Sm Bool) : Sm Bool := bnd t fun b => if b = true then u else fun _ h => .ok false h
def sOr (t u : Sm Bool) : Sm Bool := bnd t fun b => if b = true then (fun _ h => .ok true h) else u
def sIte (t : Sm Bool) (a b : Sx) : Sx := bnd t fun c => if c = true then a else b
def byB {α : Type} (o : Option Bool) (t f : Sm α) : Sm α := match o with
  | some true => t
  | some false => f
  | none => fun _ _ => .bad
def sAndV (a b : Sx) : Sx := bnd a fun x => byB (asB x) b (sK (.bl false))
def sOrV (a b : Sx) : Sx := bnd a fun x => byB (asB x) (sK (.bl true)) b
/-- a op b op' c -/
def sChn (k k' : Va → Va → Hs → Rs Va) (a b c : Sx) : Sx := bnd a fun x => bnd b fun y => bnd (vl (k x y)) fun z => byB (asB z) (bnd c fun w => vl (k' y w)) (sK (.bl false))
theorem byB_cases {C : Ct} {α β : Type} {rel : List Addr → Hp → α → β → Prop} {W : XK} {Q : β → Hp → Prop} {ρ : List Addr} {H : Hp} {x : Va} {t f : Sm α} {e : En} {h : Hs} (p : Po C rel W Q ρ H (byB (asB x) t f e h)) : (x = .bl true ∧ Po C rel W Q ρ H (t e h)) ∨ (x = .bl false ∧ Po C rel W Q ρ H (f e h)) := by
  cases x with
  | bl b => cases b with
    | true => exact .inl ⟨rfl, p⟩
    | false => exact .inr ⟨rfl, p⟩
  | _ => exact p.elim
theorem isEmpty_rp {C : Ct} {ρ : List Addr} {H : Hp} {xs : List Va} {vs : List V} (r : RpL C ρ H xs vs) : xs.isEmpty = vs.isEmpty := by cases r <;> rfl
theorem trA_of {C : Ct} {ρ : List Addr} {H : Hp} {h : Hs} (hr : HR C ρ h H) {x : Va} {v : V} (r : Rp C ρ H x v) {b : Bool} (e : trA x h = some b) : TruV C.K v H b := by
  cases r with
  | non => cases e; rfl
  | bl c => cases e; rfl
  | int i => cases e; rfl
  | str x =>
    have e : (if x.length ≤ 16777216 then some ((x.length : Int) != 0) else none) = some b := e
    split at e
    · rename_i hl
      cases e
      exact ⟨by rw [str_len, line_eq]; exact hl, by rw [str_len]⟩
    · cases e
  | tup hq rl => cases e; exact .inr (.inl ⟨_, hq.sq, by rw [isEmpty_rp rl]⟩)
  | ros hq rl => cases e; exact .inl ⟨_, hq.sq, by rw [isEmpty_rp rl]⟩
  | loc hq =>
    rename_i n a
    have e : (match h[n]? with | some (.lst xs) => some (!xs.isEmpty) | _ => none) = some b := e
    split at e
    · rename_i xs hn
      cases e
      obtain ⟨vs, e1, e2⟩ := hr.ob n _ _ hn hq
      exact .inl ⟨vs, SqL.of e1, by rw [isEmpty_rp e2]⟩
    · cases e
  | fn _ => cases e
  | ty _ => cases e
  | rg _ => cases e
  | tpw _ _ => cases e
theorem asB_of {x : Va} {b : Bool} (e : asB x = some b) : x = .bl b := by
  cases x <;> first | (cases e; rfl) | cases e
section
variable {X : Cx} {W : WX} {a b c : Expr} {fa fb fc : Sx} {ta tb tc : Sm Bool} {pos : Pos} {rest : List Expr}
abbrev tB_ (X : Cx) (W : WX) (t : Sm Bool) : TT := tTe (ctOf X) W t
theorem st_tru (ha : PE X a (tE (ctOf X) W fa)) (he : ∀ whole, isTrue a X.env whole = (do let v ← whole; standAt a.pos; holding [v] (truthy v)) := by intro _; rfl) : PT X a (tB_ X W (sTru fa)) :=
  pt_of (pt_truth ha he) fun σ H Q h => tX_bnd h fun ρ H1 e h1 x v hs hr rv p => by
    split at p
    · rename_i b hb
      exact ⟨b, trA_of hr rv hb, Po_ok p hr rfl⟩
    · exact p.elim
theorem st_of {t : TE} (ha : PT X a (tTest t)) (i : ∀ σ H Q, tE (ctOf X) W fa σ H Q → t σ H Q) : PT X a (tB_ X W (sBl fa)) :=
  pt_of ha fun σ H Q h => i σ H _ (tX_bnd h fun ρ H1 e h1 x v hs hr rv p => by
    split at p
    · rename_i b hb
      have := asB_of hb
      subst this
      cases rv
      exact ⟨b, rfl, Po_ok p hr rfl⟩
    · exact p.elim)
theorem st_com {op : CmpOp} {k : Va → Va → Hs → Rs Va} (ho : OpK X (compareOp op) k) (ha : PE X a (tE (ctOf X) W fa)) (hb : PE X b (tE (ctOf X) W fb)) (hm : behindInMarks op b = false := by first | exact nomark _ | rfl) : PT X (.Compare a [op] [b] pos) (tB_ X W (sBl (s2 k fa fb))) := by
  obtain ⟨r, h1, h2⟩ := ho
  exact st_of (pt_cmpR h1 ha hb hm) (t2_of h2)
theorem st_not (ha : PT X a (tB_ X W ta)) : PT X (.UnaryOp .Not a pos) (tB_ X W (sNot ta)) := pt_of (pt_not ha) fun σ H Q h => tX_bnd h fun ρ H1 e h1 x v hs hr rv p => by
  subst rv
  exact Po_ok p hr rfl
theorem sw_or1 (ha : PT X a (tB_ X W ta)) : PW X (.BoolOp .Or [a] pos) (tB_ X W ta) := pw_or1 ha
theorem sw_or (ha : PT X a (tB_ X W ta)) (hb : PW X (.BoolOp .Or (b :: rest) pos) (tB_ X W tb)) : PW X (.BoolOp .Or (a :: b :: rest) pos) (tB_ X W (sOr ta tb)) := pw_of (pw_or ha hb) fun σ H Q h => tX_bnd h fun ρ H1 e h1 x v hs hr rv p => by
  subst rv
  cases x with
  | true => exact iteT (Po_ok p hr rfl)
  | false => exact iteF ⟨ρ, e, h1, hs, hr, p⟩
theorem se_ite (hc : PT X c (tB_ X W tc)) (ha : PE X a (tE (ctOf X) W fa)) (hb : PE X b (tE (ctOf X) W fb)) : PE X (.IfExp c a b pos) (tE (ctOf X) W (sIte tc fa fb)) := pe_of (pe_ifExp hc ha hb) fun σ H Q h => tX_bnd h fun ρ H1 e h1 x v hs hr rv p => by
  subst rv
  cases x with
  | true => exact iteT ⟨ρ, e, h1, hs, hr, p⟩
  | false => exact iteF ⟨ρ, e, h1, hs, hr, p⟩
theorem se_one {op} (h : PE X a (tE (ctOf X) W fa)) : PE X (.BoolOp op [a] pos) (tE (ctOf X) W fa) := pe_one h
theorem se_and (ha : PE X a (tE (ctOf X) W fa)) (hb : PE X (.BoolOp .And (b :: rest) pos) (tE (ctOf X) W fb)) : PE X (.BoolOp .And (a :: b :: rest) pos) (tE (ctOf X) W (sAndV fa fb)) := pe_of (pe_and ha hb) fun σ H Q h => tX_bnd h fun ρ H1 e h1 x v hs hr rv p => by
  rcases byB_cases p with ⟨rfl, p⟩ | ⟨rfl, p⟩
  · cases rv
    exact ⟨true, rfl, iteT ⟨ρ, e, h1, hs, hr, p⟩⟩
  · cases rv
    exact ⟨false, rfl, iteF (Po_ok p hr (.bl _))⟩
theorem se_or (ha : PE X a (tE (ctOf X) W fa)) (hb : PE X (.BoolOp .Or (b :: rest) pos) (tE (ctOf X) W fb)) : PE X (.BoolOp .Or (a :: b :: rest) pos) (tE (ctOf X) W (sOrV fa fb)) := pe_of (pe_or ha hb) fun σ H Q h => tX_bnd h fun ρ H1 e h1 x v hs hr rv p => by
  rcases byB_cases p with ⟨rfl, p⟩ | ⟨rfl, p⟩
  · cases rv
    exact ⟨true, rfl, iteT (Po_ok p hr (.bl _))⟩
  · cases rv
    exact ⟨false, rfl, iteF ⟨ρ, e, h1, hs, hr, p⟩⟩
theorem tChn_of {r r' : R2} {k k' : Va → Va → Hs → Rs Va} (h1 : VOp (ctOf X) r k) (h2 : VOp (ctOf X) r' k') : ∀ σ H Q, tE (ctOf X) W (sChn k k' fa fb fc) σ H Q → tChain r r' (tE (ctOf X) W fa) (tE (ctOf X) W fb) (tE (ctOf X) W fc) σ H Q := fun σ H Q h =>
  tX_bnd h fun ρ H1 e hh1 x v hs hr rv p => Po_bnd hs hr p fun ρ2 H2 hh2 y u e2 hs2 hr2 ru p2 => by
    refine h1 ρ2 H2 hh2 x y v u (fun c d H' => W c d σ H') _ hr2 (rv.mono e2) ru ?_
    have p2 : Po _ _ _ _ _ _ (bnd (vl (k x y)) (fun z => byB (asB z) (bnd fc fun w => vl (k' y w)) (sK (.bl false))) e hh2) := p2
    unfold bnd vl at p2
    cases q : k x y hh2 with
    | ok z h3 =>
      rw [q] at p2
      intro ρ3 H3 w e3 hr3 rw_
      have p3 := Po.mono e3 p2
      have hs3 := hs2.mono e3
      rcases byB_cases p3 with ⟨rfl, p3⟩ | ⟨rfl, p3⟩
      · cases rw_
        refine ⟨true, rfl, iteT (Po_bnd (k := fun w => vl (k' y w)) hs3 hr3 p3 fun ρ4 H4 h4 w' w e4 hs4 hr4 r4 p4 => ?_)⟩
        exact h2 ρ4 H4 h4 y w' u w _ Q hr4 ((ru.mono e3).mono e4) r4 p4
      · cases rw_
        exact ⟨false, rfl, iteF (Po_ok p3 hr3 (.bl _))⟩
    | ex z h3 => rw [q] at p2; exact p2
    | bad => rw [q] at p2; exact p2
theorem se_chn {op op' : CmpOp} {k k' : Va → Va → Hs → Rs Va} (ho : OpK X (compareOp op) k) (ho' : OpK X (compareOp op') k') (ha : PE X a (tE (ctOf X) W fa)) (hb : PE X b (tE (ctOf X) W fb)) (hc : PE X c (tE (ctOf X) W fc))
    (hm : lastMarks [op, op'] [b, c] = false := by with_unfolding_all rfl) : PE X (.Compare a [op, op'] [b, c] pos) (tE (ctOf X) W (sChn k k' fa fb fc)) := by
  obtain ⟨r, h1, h2⟩ := ho
  obtain ⟨r', h1', h2'⟩ := ho'
  exact pe_of (pe_chain h1 h1' ha hb hc hm) (tChn_of h2 h2')
end
end Fw

set_option Elab.async false
set_option linter.all false
set_option maxRecDepth 100000
set_option maxHeartbeats 2000000
set_option autoImplicit false
namespace Fw
open PySem PySem.Spec L2

/-! ### blocks -/
def skip : Ss := fun e h => .nx e h
def never : Ss := fun _ _ => .bad
abbrev tS_ (X : Cx) (W : WX) (f : Ss) : TS := tSt (ctOf X) W f
section
variable {X : Cx} {W : WX} {st : Stmt} {rest : List Stmt} {f g : Ss} {pos : Pos} {e c : Expr} {fe : Sx} {ft : Sm Bool}
theorem ss_nil : PSs X [] (tS_ X W skip) := pss_of pss_nil fun D σ H ⟨ρ, e, h, hs, hr, p⟩ => p ρ H σ .refl hr hs
theorem PoS_seq {D : Ends} {ρ : List Addr} {H : Hp} {g : Ss} : ∀ {r : Rt}, PoS (ctOf X) W D ρ H (match r with | .nx e' h' => g e' h' | r => r) → PoS (ctOf X) W { D with nx := tS_ X W g D } ρ H r
  | .nx e' h', p => fun ρ' H' σ' ex hr hs => ⟨ρ', e', h', hs, hr, PoS.mono ex p⟩
  | .bk _ _, p => p
  | .ct _ _, p => p
  | .rt _ _, p => p
  | .ex _ _ _, p => p
  | .bad, p => p
theorem ss_cons (h1 : PS X st (tS_ X W f)) (h2 : PSs X rest (tS_ X W g)) : PSs X (st :: rest) (tS_ X W (seq f g)) := pss_of (pss_cons h1 h2) fun D σ H ⟨ρ, e, h, hs, hr, p⟩ => ⟨ρ, e, h, hs, hr, PoS_seq p⟩
theorem ss_one (h1 : PS X st (tS_ X W f)) : PSs X [st] (tS_ X W f) := pss_one h1
theorem sp_never : PS X st (tS_ X W never) := ps_of ps_never fun D σ H ⟨ρ, e, h, hs, hr, p⟩ => p
def sDrop (f : Sx) : Ss := bnS f fun _ e h => .nx e h
def sRet (f : Sx) : Ss := bnS f fun x _ h => .rt x h
def sIf (t : Sm Bool) (a b : Ss) : Ss := bnS t fun c => if c = true then a else b
theorem sp_expr (he : PE X e (tE (ctOf X) W fe)) (hs : swapsWith e none pos.line X.env = pure false := by rfl) : PS X (.Expr e pos) (tS_ X W (sDrop fe)) := ps_of (ps_expr he hs) fun D σ H h => tSt_bnS h fun ρ H1 e h1 x v hs hr rv p => p ρ H1 σ .refl hr hs
theorem sp_ret (he : PE X e (tE (ctOf X) W fe)) : PS X (.Return (some e) pos) (tS_ X W (sRet fe)) := ps_of (ps_ret he) fun D σ H h => tSt_bnS h fun ρ H1 e h1 x v hs hr rv p => p ρ H1 v .refl hr rv
theorem sp_if {a b : List Stmt} (hc : PT X c (tB_ X W ft)) (ha : PSs X a (tS_ X W f)) (hb : PSs X b (tS_ X W g)) : PS X (.If c a b pos) (tS_ X W (sIf ft f g)) := ps_of (ps_if hc ha hb) fun D σ H h => tSt_bnS h fun ρ H1 e h1 x v hs hr rv p => by
  subst rv
  cases x with
  | true => exact iteT ⟨ρ, e, h1, hs, hr, p⟩
  | false => exact iteF ⟨ρ, e, h1, hs, hr, p⟩
end

/-! ### targets -/
abbrev Tg := Va → En → Hs → Rs En
abbrev Tgs := List Va → En → Hs → Rs En
def PoG (C : Ct) (Q : L2.St → Hp → Prop) (ρ : List Addr) (H : Hp) : Rs En → Prop
  | .ok e h => ∀ ρ' H' σ', Ext C ρ H ρ' H' → HR C ρ' h H' → SR C ρ' H' e σ' → Q σ' H'
  | _ => False
theorem PoG.mono {C : Ct} {Q : L2.St → Hp → Prop} {ρ ρ1 : List Addr} {H H1 : Hp} (e : Ext C ρ H ρ1 H1) : ∀ {r : Rs En}, PoG C Q ρ H r → PoG C Q ρ1 H1 r
  | .ok _ _, p => fun ρ' H' v e' => p ρ' H' v (e.trans e')
  | .ex _ _, p => p
  | .bad, p => p
def tTg (C : Ct) (f : Tg) : TG := fun v σ H Q => ∃ ρ e h x, SR C ρ H e σ ∧ HR C ρ h H ∧ Rp C ρ H x v ∧ PoG C Q ρ H (f x e h)
def tTgs (C : Ct) (f : Tgs) : TGs := fun v σ H Q => ∃ ρ e h x, SR C ρ H e σ ∧ HR C ρ h H ∧ RpL C ρ H x v ∧ PoG C Q ρ H (f x e h)
@[simp] def gNm (i : Nat) : Tg := fun x e h => .ok (e.set i (some x)) h
@[simp] def gsNil : Tgs := fun xs e h => match xs with
  | [] => .ok e h
  | _ :: _ => .bad
@[simp] def gsCons (f : Tg) (g : Tgs) : Tgs := fun xs e h => match xs with
  | [] => .bad
  | x :: r => match f x e h with
    | .ok e' h' => g r e' h'
    | _ => .bad
@[simp] def gTp (n : Nat) (g : Tgs) : Tg := fun x e h => match x with
  | .tup xs => if xs.length = n then g xs e h else .bad
  | .tpw xs => if xs.length = n then g xs e h else .bad
  | .loc m => match h[m]? with
    | some (.lst xs) => if xs.length = n then g xs e h else .bad
    | _ => .bad
  | _ => .bad
/-- a store by values: what the heap becomes -/
def kSet : Va → Va → Va → Hs → Option Hs
  | .loc n, .int i, x, h => match h[n]? with
    | some (.lst xs) => (ixN xs.length i).map fun j => h.set n (.lst (xs.set j x))
    | _ => none
  | _, _, _, _ => none
def gSb (fo fi : Sx) : Tg := fun x e h => match bnd fo (fun o => bnd fi fun i => fun _ h => match kSet o i x h with
    | some h' => Rs.ok () h'
    | none => .bad) e h with
  | .ok _ h' => .ok e h'
  | _ => .bad
section
variable {X : Cx} {W : WX} {pos : Pos} {e : Expr} {es : List Expr} {f : Tg} {g : Tgs}
theorem pg_of {t t' : TG} (h : PG X e t) (i : ∀ v σ H Q, t' v σ H Q → t v σ H Q) : PG X e t' := ⟨fun pins s σ H v u Q I r q => h.run pins s σ H v u Q I r (i v σ H Q q)⟩
theorem pgs_of {t t' : TGs} (h : PGs X es t) (i : ∀ v σ H Q, t' v σ H Q → t v σ H Q) : PGs X es t' := ⟨fun pins s σ H v u Q I r q => h.run pins s σ H v u Q I r (i v σ H Q q)⟩
theorem sg_name (i : Nat) {x : Str} (hN : X.N.Nodup) (hi : X.N[i]? = some x := by rfl) (hx : Loc X.env.scope x := by first | exact Or.inl rfl | exact Or.inr rfl) (hf : X.fn x = true ∨ X.env.scope.names.lookup x = some .local := by first | exact .inl rfl | exact .inr rfl) : PG X (.Name x pos) (tTg (ctOf X) (gNm i)) :=
  pg_of (pg_name hN hi hx hf) fun v σ H Q ⟨ρ, e, h, x, hs, hr, rv, p⟩ => p ρ H _ .refl hr (hs.set i rv)
theorem sgs_nil : PGs X [] (tTgs (ctOf X) gsNil) := pgs_of pgs_nil fun v σ H Q ⟨ρ, e, h, xs, hs, hr, rv, p⟩ => by
  cases rv with
  | nil => exact ⟨rfl, p ρ H σ .refl hr hs⟩
  | cons _ _ => exact p.elim
theorem sgs_cons (h1 : PG X e (tTg (ctOf X) f)) (h2 : PGs X es (tTgs (ctOf X) g)) (hs : (assignEach (e :: es) X.env).map (·.2) = assign e X.env :: (assignEach es X.env).map (·.2) := by rfl) : PGs X (e :: es) (tTgs (ctOf X) (gsCons f g)) :=
  pgs_of (pgs_cons h1 h2 hs) fun v σ H Q ⟨ρ, e, h, xs, hs, hr, rv, p⟩ => by
    cases rv with
    | nil => exact p.elim
    | cons r1 r2 =>
      refine ⟨_, _, rfl, ρ, e, h, _, hs, hr, r1, ?_⟩
      unfold gsCons at p
      dsimp only at p
      split at p
      · rename_i e' h' q
        rw [q]
        exact fun ρ' H' σ' ex hr' hs' => ⟨ρ', e', h', _, hs', hr', r2.mono ex, PoG.mono ex p⟩
      · exact p.elim
theorem sg_tup {k n : Nat} (hc : X.calm = true) (h : PGs X es (tTgs (ctOf X) g)) (hn : (assignEach es X.env).length = n := by rfl) (hst : (assignEach es X.env).findIdx? (·.1) = none := by rfl) : PG X (.Tuple es k pos) (tTg (ctOf X) (gTp n g)) := by
  refine ⟨fun pins s σ H v u Q I r ⟨ρ, e, h', x, hs, hr, rv, p⟩ => ?_⟩
  cases x with
  | tup xs =>
    have p : PoG _ _ _ _ (if xs.length = n then g xs e h' else .bad) := p
    split at p
    · rename_i hl
      cases rv with
      | tup hq rl => exact (pg_tup hc h hn hst).run pins s σ H _ u Q I r ⟨_, _, rfl, hq.sq, by rw [← rl.length]; exact hl, ρ, e, h', xs, hs, hr, rl, p⟩
    · exact p.elim
  | tpw xs =>
    have p : PoG _ _ _ _ (if xs.length = n then g xs e h' else .bad) := p
    split at p
    · rename_i hl
      cases rv with
      | tpw hq rl => exact (pg_tup hc h hn hst).run pins s σ H _ u Q I r ⟨_, _, rfl, hq, by rw [← rl.length]; exact hl, ρ, e, h', xs, hs, hr, rl, p⟩
    · exact p.elim
  | loc m =>
    have p : PoG _ _ _ _ (match h'[m]? with | some (.lst xs) => if xs.length = n then g xs e h' else .bad | _ => .bad) := p
    split at p
    · rename_i xs hm
      obtain ⟨a, vs, rfl, ha, hl, rl⟩ := hr.ls_ hm rv
      split at p
      · rename_i hl2
        exact (pg_unl hc h hn hst).run pins s σ H _ u Q I r ⟨_, _, rfl, SqL.of hl, by rw [← rl.length]; exact hl2, ρ, e, h', xs, hs, hr, rl, p⟩
      · exact p.elim
    · exact p.elim
  | _ => exact p.elim
/-- by values: a list's item stored -/
theorem kSet_of {C : Ct} {ρ : List Addr} {H : Hp} {h h' : Hs} {o i x : Va} {vo vi vx : V} (hr : HR C ρ h H) (ro : Rp C ρ H o vo) (ri : Rp C ρ H i vi) (rx : Rp C ρ H x vx) (e : kSet o i x h = some h') {Q : Hp → Prop} (hQ : ∀ H', Ext C ρ H ρ H' → HR C ρ h' H' → Q H') : rSetL vo vi vx H Q := by
  cases o with
  | loc n => cases i with
    | int i =>
      cases ri
      have e : (match h[n]? with | some (.lst xs) => (ixN xs.length i).map fun j => h.set n (.lst (xs.set j x)) | _ => none) = some h' := e
      split at e
      · rename_i xs hn
        obtain ⟨a, vs, rfl, ha, hl, rl⟩ := hr.ls_ hn ro
        cases q : ixN xs.length i with
        | none => rw [q] at e; cases e
        | some j =>
          rw [q] at e
          cases e
          obtain ⟨e1, e2⟩ := hr.write hn ha hl (rl.set rx j)
          exact ⟨a, vs, i, j, rfl, rfl, hl, by rw [← rl.length]; exact q, hQ _ e1 e2⟩
      · cases e
    | _ => cases e
  | _ => cases e
theorem sg_sub {o i : Expr} {fo fi : Sx} (ho : PE X o (tE (ctOf X) (fun _ _ _ _ => False) fo)) (hi : PE X i (tE (ctOf X) (fun _ _ _ _ => False) fi)) (ha : ∀ v, assign (.Subscript o i pos) X.env v = (do let ov ← holding [v] (eval o X.env); let iv ← holding [v, ov] (eval i X.env); standAt pos; holding [v, ov, iv] (setItem ov iv v); release [v, ov, iv] []) := by intro _; rfl) : PG X (.Subscript o i pos) (tTg (ctOf X) (gSb fo fi)) := pg_of (pg_sub ho hi set_list ha) fun v σ H Q ⟨ρ, e, h, x, hs, hr, rv, p⟩ => by
  unfold gSb at p
  generalize hq : bnd fo (fun o => bnd fi fun i => fun _ h => match kSet o i x h with | some h' => Rs.ok () h' | none => .bad) e h = r at p
  have p2 : Po (ctOf X) (fun _ _ (_ : Unit) (_ : Unit) => True) (fun _ _ _ => False) (fun _ H' => Q σ H') ρ H r := by
    cases r with
    | ok _ h' => exact fun ρ' H' _ ex hr' _ => p ρ' H' σ ex hr' (hs.mono ex)
    | ex _ _ => exact p.elim
    | bad => exact p.elim
  rw [← hq] at p2
  refine Po_bnd (W := fun _ _ _ _ => False) (k := fun o => bnd fi fun i => fun _ h => match kSet o i x h with | some h' => Rs.ok () h' | none => .bad) hs hr p2 fun ρ1 H1 h1 o vo e1 hs1 hr1 ro p3 => Po_bnd (W := fun _ _ _ _ => False) (k := fun i => fun _ h => match kSet o i x h with | some h' => Rs.ok () h' | none => .bad) hs1 hr1 p3 fun ρ2 H2 h2 i vi e2 hs2 hr2 ri p4 => ?_
  cases q : kSet o i x h2 with
  | none => rw [q] at p4; exact p4.elim
  | some h' =>
    rw [q] at p4
    exact kSet_of hr2 (ro.mono e2) ri (rv.mono (e1.trans e2)) q fun H' ex hr' => p4 ρ2 H' () ex hr' trivial
end
def sAsg (f : Sx) (g : Tg) : Ss := bnS f fun x e h => match g x e h with
  | .ok e' h' => .nx e' h'
  | _ => .bad
def sSet (i : Nat) (f : Sx) : Ss := bnS f fun x e h => .nx (e.set i (some x)) h
/-- several names at once -/
@[simp] def setAll : List Nat → List Va → En → Option En
  | [], [], e => some e
  | i :: is, x :: xs, e => setAll is xs (e.set i (some x))
  | _, _, _ => none
def sPar (is : List Nat) (f : Sm (List Va)) : Ss := bnS f fun xs e h => match setAll is xs e with
  | some e' => .nx e' h
  | none => .bad
def sAug (k : Va → Va → Hs → Rs Va) (i : Nat) (f : Sx) : Ss := bnS (s2 k (sVar i) f) fun x e h => .nx (e.set i (some x)) h
section
variable {X : Cx} {W : WX} {pos : Pos} {e tg : Expr} {fe : Sx} {g : Tg}
theorem sp_asg (he : PE X e (tE (ctOf X) W fe)) (hg : PG X tg (tTg (ctOf X) g)) (hs : swapsWithSole [tg] e pos.line X.env = pure false := by rfl) (hw : swappedStores [tg] e X.env = pure none := by rfl) (h1 : (assignEach [tg] X.env).map (·.2) = [assign tg X.env] := by rfl) : PS X (.Assign [tg] e pos) (tS_ X W (sAsg fe g)) :=
  ps_of (ps_asg he hg hs hw h1) fun D σ H h => tSt_bnS h fun ρ H1 e h1 x v hs hr rv p => by
    refine ⟨ρ, e, h1, x, hs, hr, rv, ?_⟩
    cases q : g x e h1 with
    | ok e' h' => rw [q] at p; exact p
    | ex _ _ => rw [q] at p; exact p
    | bad => rw [q] at p; exact p
theorem sp_set (i : Nat) {x : Str} {pos' : Pos} (hN : X.N.Nodup) (he : PE X e (tE (ctOf X) W fe)) (hi : X.N[i]? = some x := by rfl) (hx : Loc X.env.scope x := by first | exact Or.inl rfl | exact Or.inr rfl) (hs : swapsWith e (some (.Name x pos')) pos.line X.env = pure false := by rfl) (hf : X.fn x = true ∨ X.env.scope.names.lookup x = some .local := by first | exact .inl rfl | exact .inr rfl) :
    PS X (.Assign [.Name x pos'] e pos) (tS_ X W (sSet i fe)) := ps_of (ps_set hN hi hx he hs hf) fun D σ H h => tSt_bnS h fun ρ H1 e h1 x v hs hr rv p => p ρ H1 _ .refl hr (hs.set i rv)
theorem sp_par {i j : Nat} {x y : Str} {a b : Expr} {fa : Sm (List Va)} {px py pt : Pos} {kt k2 pt2} (hc : X.calm = true) (hN : X.N.Nodup) (h : PA X [a, b] (tAr (ctOf X) W fa)) (hi : X.N[i]? = some x := by rfl) (hj : X.N[j]? = some y := by rfl) (hij : i ≠ j := by decide)
    (hx : X.env.scope.names.lookup x = some .local := by rfl) (hy : X.env.scope.names.lookup y = some .local := by rfl)
    (hw : swappedStores [.Tuple [.Name x px, .Name y py] kt pt] (.Tuple [a, b] k2 pt2) X.env = pure (some [x, y]) := by rfl) (hs : swapsWithSole [.Tuple [.Name x px, .Name y py] kt pt] (.Tuple [a, b] k2 pt2) pos.line X.env = pure false := by rfl) :
    PS X (.Assign [.Tuple [.Name x px, .Name y py] kt pt] (.Tuple [a, b] k2 pt2) pos) (tS_ X W (sPar [i, j] fa)) := ps_of (ps_par hc hN hi hj hij hx hy h hw hs) fun D σ H h => tSt_bnS h fun ρ H1 e h1 xs vs hs hr rv p => by
  cases rv with
  | nil => exact p.elim
  | cons r1 rv => cases rv with
    | nil => exact p.elim
    | cons r2 rv => cases rv with
      | nil => exact ⟨_, _, rfl, p ρ H1 _ .refl hr ((hs.set i r1).set j r2)⟩
      | cons _ _ => exact p.elim
theorem sp_aug {op : Operator} {k : Va → Va → Hs → Rs Va} {i : Nat} {x : Str} {pos' : Pos} (hN : X.N.Nodup) (he : PE X e (tE (ctOf X) W fe)) (ho : OpK X (inplaceOp op) k)
    (hi : X.N[i]? = some x := by rfl) (hx : Loc X.env.scope x := by first | exact Or.inl rfl | exact Or.inr rfl) (hf : X.fn x = true ∨ X.env.scope.names.lookup x = some .local := by first | exact .inl rfl | exact .inr rfl) : PS X (.AugAssign (.Name x pos') op e pos) (tS_ X W (sAug k i fe)) := by
  obtain ⟨t, h1, h2⟩ := ho
  refine ps_of (ps_aug (ti := t) hN hi hx he h1 hf) fun D σ H ⟨ρ, e, h, hs, hr, p⟩ => ?_
  have p : PoS (ctOf X) W D ρ H (bnS (s2 k (sVar i) fe) (fun x e h => .nx (e.set i (some x)) h) e h) := p
  unfold bnS s2 bnd sVar at p
  cases q : e[i]? with
  | none => rw [q] at p; exact p.elim
  | some o => cases o with
    | none => rw [q] at p; exact p.elim
    | some y =>
      rw [q] at p
      obtain ⟨v, hv, rv⟩ := hs.2 i y q
      refine ⟨v, hv, ρ, e, h, hs, hr, ?_⟩
      dsimp only at p
      cases q2 : fe e h with
      | ok z h3 =>
        rw [q2] at p
        intro ρ1 H1 u e1 hr1 ru
        refine h2 ρ1 H1 h3 y z v u (fun c d H' => W c d σ H') _ hr1 (rv.mono e1) ru ?_
        cases q3 : k y z h3 with
        | ok w h4 =>
          simp only [vl, q3] at p
          exact fun ρ' H' w' ex hr' rw' => p ρ' H' _ (e1.trans ex) hr' ((((hs.mono e1).mono ex)).set i rw')
        | ex w h4 =>
          simp only [vl, q3] at p
          exact fun ρ' H' cls d ex hr' xr => p ρ' H' σ cls d (e1.trans ex) hr' ((hs.mono e1).mono ex) xr
        | bad =>
          simp only [vl, q3] at p
          exact p
      | ex w h4 => rw [q2] at p; exact fun ρ' H' cls d ex hr' xr => p ρ' H' σ cls d ex hr' (hs.mono ex) xr
      | bad => rw [q2] at p; exact p
@[simp] def kIad : Va → Va → Hs → Rs Va
  | .int i, .int j => okI (i + j)
  | .str x, .str y => fun h => if x.length + y.length ≤ 16777216 then .ok (.str (x ++ y)) h else .bad
  | _, _ => fun _ => .bad
theorem ks_iadd : OpK X (inplaceOp .Add) kIad := ⟨_, OpR.or iop_add iop_add_str, by
  intro ρ H h x y v u W Q hr rx ry p
  cases x <;> cases y <;> first
    | exact False.elim p
    | (cases rx; cases ry; exact .inl ⟨_, _, rfl, rfl, Po_ok p hr (.int _)⟩)
    | (rename_i x y
       cases rx; cases ry
       have p : Po _ _ _ _ _ _ (if x.length + y.length ≤ 16777216 then _ else _) := p
       split at p
       · rename_i c
         refine .inr ⟨_, _, rfl, rfl, by rw [str_len, str_len, line_eq]; exact c, ?_⟩
         rw [str_app]
         exact Po_ok p hr (.str _)
       · exact p.elim)⟩
end
end Fw

set_option Elab.async false
set_option linter.all false
set_option maxRecDepth 100000
set_option maxHeartbeats 2000000
set_option autoImplicit false
namespace Fw
open PySem PySem.Spec L2

/-! ### what is walked -/
abbrev Src := Nat → Hs → Option (Option Va)
@[simp] def srcV (xs : List Va) : Src := fun i _ => some xs[i]?
def srcL (n : Nat) : Src := fun i h => match h[n]? with
  | some (.lst xs) => some xs[i]?
  | _ => none
def srcEL (n : Nat) : Src := fun i h => match h[n]? with
  | some (.lst xs) => some (xs[i]?.map fun x => .tpw [.int (i : Nat), x])
  | _ => none
def srcEV (xs : List Va) : Src := fun i _ => some (xs[i]?.map fun x => .tpw [.int (i : Nat), x])
structure SrcR (C : Ct) (ρ : List Addr) (H : Hp) (s : Src) (J : It) : Prop where
  stp : ∀ (ρ1 : List Addr) (H1 : Hp) (h1 : Hs) (i : Nat), Ext C ρ H ρ1 H1 → HR C ρ1 h1 H1 → s i h1 = some none → J.stop i H1
  go : ∀ (ρ1 : List Addr) (H1 : Hp) (h1 : Hs) (i : Nat) (x : Va), Ext C ρ H ρ1 H1 → HR C ρ1 h1 H1 → s i h1 = some (some x) → J.go i H1 ∧ ∀ v H2, J.yld i H1 v H2 → Ext C ρ1 H1 ρ1 H2 ∧ HR C ρ1 h1 H2 ∧ Rp C ρ1 H2 x v
theorem SrcR.mono {C : Ct} {ρ ρ' : List Addr} {H H' : Hp} {s : Src} {J : It} (e : Ext C ρ H ρ' H') (r : SrcR C ρ H s J) : SrcR C ρ' H' s J :=
  ⟨fun ρ1 H1 h1 i ex => r.stp ρ1 H1 h1 i (e.trans ex), fun ρ1 H1 h1 i x ex => r.go ρ1 H1 h1 i x (e.trans ex)⟩
abbrev Sit := Sm (Src × Nat)
abbrev tIt (C : Ct) (W : WX) (f : Sit) : TI := tX C (fun ρ H s J => SrcR C ρ H s.1 J) W f
section
variable {C : Ct} {ρ : List Addr} {H : Hp}
theorem srcL_of {n : Nat} {a : Addr} (ha : ρ[n]? = some a) : SrcR C ρ H (srcL n) (Itl C.K a) := by
  have look : ∀ {ρ1 H1 h1 i r}, Ext C ρ H ρ1 H1 → HR C ρ1 h1 H1 → srcL n i h1 = some r → ∃ xs vs, H1 a = some (.lst vs) ∧ RpL C ρ1 H1 xs vs ∧ xs[i]? = r := fun {ρ1 H1 h1 i r} ex hr e => by
    unfold srcL at e
    split at e
    · rename_i xs hn
      obtain ⟨vs, e1, e2⟩ := hr.ob n _ a hn (ex.pre n a ha)
      exact ⟨xs, vs, e1, e2, Option.some.inj e⟩
    · cases e
  refine ⟨fun ρ1 H1 h1 i ex hr e => ?_, fun ρ1 H1 h1 i x ex hr e => ?_⟩
  · obtain ⟨xs, vs, e1, e2, e3⟩ := look ex hr e
    exact ⟨vs, SqL.of e1, by rw [← e2.length]; exact List.getElem?_eq_none_iff.mp e3⟩
  · obtain ⟨xs, vs, e1, e2, e3⟩ := look ex hr e
    obtain ⟨v, h1, h2⟩ := e2.get e3
    refine ⟨⟨vs, v, SqL.of e1, h1⟩, fun v' H2 ⟨q1, q2⟩ => ?_⟩
    subst q1
    have := q2 vs (SqL.of e1)
    rw [h1] at this
    cases this
    exact ⟨.refl, hr, h2⟩
theorem srcT_of {xs : List Va} {vs : List V} {a : Addr} (hq : SqT C.K H a vs) (rl : RpL C ρ H xs vs) : SrcR C ρ H (srcV xs) (Itt C.K a) := by
  refine ⟨fun ρ1 H1 h1 i ex hr e => ?_, fun ρ1 H1 h1 i x ex hr e => ?_⟩
  · exact ⟨vs, ex.tup _ _ hq, by rw [← rl.length]; exact List.getElem?_eq_none_iff.mp (Option.some.inj e)⟩
  · obtain ⟨v, q1, q2⟩ := (rl.mono ex).get (Option.some.inj e)
    refine ⟨⟨vs, v, ex.tup _ _ hq, q1⟩, fun v' H2 ⟨q3, q4⟩ => ?_⟩
    subst q3
    have := q4 vs (ex.tup _ _ hq)
    rw [q1] at this
    cases this
    exact ⟨.refl, hr, q2⟩
theorem srcR_of {xs : List Va} {vs : List V} {a : Addr} (hq : RoL C.K H a vs) (rl : RpL C ρ H xs vs) : SrcR C ρ H (srcV xs) (Itl C.K a) := by
  refine ⟨fun ρ1 H1 h1 i ex hr e => ?_, fun ρ1 H1 h1 i x ex hr e => ?_⟩
  · exact ⟨vs, (hq.mono ex).sq, by rw [← rl.length]; exact List.getElem?_eq_none_iff.mp (Option.some.inj e)⟩
  · obtain ⟨v, q1, q2⟩ := (rl.mono ex).get (Option.some.inj e)
    refine ⟨⟨vs, v, (hq.mono ex).sq, q1⟩, fun v' H2 ⟨q3, q4⟩ => ?_⟩
    subst q3
    have := q4 vs (hq.mono ex).sq
    rw [q1] at this
    cases this
    exact ⟨.refl, hr, q2⟩
theorem srcS_of {x : List Nat} : SrcR C ρ H (srcV (x.map fun c => .str [c])) (Its ⟨x.toArray⟩) := by
  refine ⟨fun ρ1 H1 h1 i ex hr e => ?_, fun ρ1 H1 h1 i y ex hr e => ?_⟩
  · have e : (x.map fun c => Va.str [c])[i]? = none := Option.some.inj e
    have := List.getElem?_eq_none_iff.mp e
    show (x.toArray).size ≤ i
    simpa using this
  · have e : (x.map fun c => Va.str [c])[i]? = some y := Option.some.inj e
    rw [List.getElem?_map] at e
    cases q : x[i]? with
    | none => rw [q] at e; cases e
    | some c =>
      rw [q] at e
      cases e
      refine ⟨?_, fun v H2 ⟨q3, c', q4, q5⟩ => ?_⟩
      · show i < (x.toArray).size
        simpa using (List.getElem?_eq_some_iff.mp q).1
      · subst q3 q5
        have q4 : (x.toArray)[i]? = some c' := q4
        rw [List.getElem?_toArray, q] at q4
        cases q4
        exact ⟨.refl, hr, .str [c]⟩
@[simp] def srcR (lo : Int) (n : Nat) : Src := fun i _ => if i < n then some (some (.int (lo + (i : Nat)))) else some none
theorem srcI_of {lo : Int} {n : Nat} : SrcR C ρ H (srcR lo n) (Itr lo n) := by
  refine ⟨fun ρ1 H1 h1 i ex hr e => ?_, fun ρ1 H1 h1 i y ex hr e => ?_⟩
  · unfold srcR at e
    split at e
    · cases e
    · rename_i c
      exact Nat.le_of_not_lt c
  · unfold srcR at e
    split at e
    · rename_i c
      cases e
      refine ⟨c, fun v H2 ⟨q1, q2⟩ => ?_⟩
      subst q1 q2
      exact ⟨.refl, hr, .int _⟩
    · cases e
end
/-- iterating a value -/
@[simp] def itV : Va → Hs → Option (Src × Nat)
  | .loc n, h => match h[n]? with
    | some (.lst xs) => some (srcL n, xs.length)
    | _ => none
  | .tup xs, _ => some (srcV xs, xs.length)
  | .tpw xs, _ => some (srcV xs, xs.length)
  | .ros xs, _ => some (srcV xs, xs.length)
  | .str x, _ => some (srcV (x.map fun c => .str [c]), x.length)
  | _, _ => none
def enV : Va → Hs → Option (Src × Nat)
  | .loc n, h => match h[n]? with
    | some (.lst xs) => some (srcEL n, xs.length)
    | _ => none
  | .ros xs, _ => some (srcEV xs, xs.length)
  | _, _ => none
def sItr (f : Sx) : Sit := bnd f fun x _ h => match itV x h with
  | some s => .ok s h
  | none => .bad
def sEnu (f : Sm (List Va)) : Sit := bnd f fun xs _ h => match xs with
  | [x] => match enV x h with
    | some s => .ok s h
    | none => .bad
  | _ => .bad
def sRg1 (f : Sm (List Va)) : Sit := bnd f fun xs _ h => match xs with
  | [.int j] => if -(2 ^ 62) ≤ j ∧ j < 2 ^ 62 then .ok (srcR 0 j.toNat, j.toNat) h else .bad
  | _ => .bad
section
variable {X : Cx} {W : WX} {tg a b e : Expr} {fe : Sx} {fa : Sm (List Va)} {p pos : Pos}
theorem pi_of {t t' : TI} (h : PI X tg e t) (i : ∀ σ H Q, t' σ H Q → t σ H Q) : PI X tg e t' := ⟨fun pins s σ H R I q => h.run pins s σ H R I (i σ H R q)⟩
theorem pi_or {t t' : TI} (h : PI X tg e t) (h' : PI X tg e t') : PI X tg e (fun σ H R => t σ H R ∨ t' σ H R) := ⟨fun pins s σ H R I q => q.elim (h.run pins s σ H R I) (h'.run pins s σ H R I)⟩
theorem si_rg1 (hg : Gl X "range") (hm : X.mg "range" = none) (ha : PA X [a] (tAr (ctOf X) W fa)) (hs : starEach [a] X.env = [(false, eval a X.env)] := by rfl) : PI X tg (.Call (.Name "range" p) [a] [] pos) (tIt (ctOf X) W (sRg1 fa)) := pi_of (pi_range1 hg hm ha hs) fun σ H Q h => tX_bnd h fun ρ H1 e h1 xs vs hs hr rv p => by
  split at p
  · split at p
    · rename_i j c
      cases rv with
      | cons r1 r2 => cases r1; cases r2; exact ⟨_, rfl, c.1, c.2, p ρ H1 _ .refl hr srcI_of⟩
    · exact p.elim
  · exact p.elim
/-- a list, a tuple, a text, by what comes -/
theorem si_any (he : PE X e (tE (ctOf X) W fe)) : PI X tg e (tIt (ctOf X) W (sItr fe)) := pi_of (pi_or (pi_list (tg := tg) he) (pi_or (pi_tup he) (pi_str he))) fun σ H Q h => by
  obtain ⟨ρ, e, h, hs, hr, p⟩ := h
  have hh : tIt (ctOf X) W (sItr fe) σ H Q := ⟨ρ, e, h, hs, hr, p⟩
  have done : ∀ (P : Va → Prop) (R : V → Hp → Prop), (∀ x h', fe e h = .ok x h' → P x) → (∀ ρ1 H1 h1 x v, HR (ctOf X) ρ1 h1 H1 → Rp (ctOf X) ρ1 H1 x v → P x → Po (ctOf X) (fun ρ H (s : Src × Nat) J => SrcR (ctOf X) ρ H s.1 J) (fun c d H' => W c d σ H') Q ρ1 H1 (match itV x h1 with | some s => .ok s h1 | none => .bad) → R v H1) → tE (ctOf X) W fe σ H R := fun P R h1 h2 => by
    refine ⟨ρ, e, h, hs, hr, ?_⟩
    unfold sItr bnd at p
    cases q : fe e h with
    | ok x h' => rw [q] at p; exact fun ρ1 H1 v e1 hr1 rv => h2 ρ1 H1 h' x v hr1 rv (h1 x h' q) (Po.mono e1 p)
    | ex x h' => rw [q] at p; exact p
    | bad => rw [q] at p; exact p
  cases q : fe e h with
  | ok x h' =>
    cases x with
    | loc n => exact .inl (done (fun x => ∃ n, x = .loc n) _ (fun x h2 e2 => by rw [q] at e2; cases e2; exact ⟨_, rfl⟩) fun ρ1 H1 h1 x v hr1 rv ⟨n, ex⟩ p => by
        subst ex
        have p : Po _ _ _ _ _ _ (match (match h1[n]? with | some (.lst xs) => some (srcL n, xs.length) | _ => none) with | some s => .ok s h1 | none => .bad) := p
        split at p
        · rename_i s hs'
          split at hs'
          · rename_i xs hn
            cases hs'
            obtain ⟨a, vs, rfl, ha, hl, rl⟩ := hr1.ls_ hn rv
            exact ⟨a, rfl, ⟨vs, SqL.of hl⟩, p ρ1 H1 _ .refl hr1 (srcL_of ha)⟩
          · cases hs'
        · exact p.elim)
    | ros xs => exact .inl (done (fun x => ∃ n, x = .ros n) _ (fun x h2 e2 => by rw [q] at e2; cases e2; exact ⟨_, rfl⟩) fun ρ1 H1 h1 x v hr1 rv ⟨n, ex⟩ p => by
        subst ex
        cases rv with
        | ros hq rl => exact ⟨_, rfl, ⟨_, hq.sq⟩, p ρ1 H1 _ .refl hr1 (srcR_of hq rl)⟩)
    | tup xs => exact .inr (.inl (done (fun x => ∃ n, x = .tup n) _ (fun x h2 e2 => by rw [q] at e2; cases e2; exact ⟨_, rfl⟩) fun ρ1 H1 h1 x v hr1 rv ⟨n, ex⟩ p => by
        subst ex
        cases rv with
        | tup hq rl => exact ⟨_, rfl, ⟨_, hq.sq⟩, p ρ1 H1 _ .refl hr1 (srcT_of hq.sq rl)⟩))
    | tpw xs => exact .inr (.inl (done (fun x => ∃ n, x = .tpw n) _ (fun x h2 e2 => by rw [q] at e2; cases e2; exact ⟨_, rfl⟩) fun ρ1 H1 h1 x v hr1 rv ⟨n, ex⟩ p => by
        subst ex
        cases rv with
        | tpw hq rl => exact ⟨_, rfl, ⟨_, hq⟩, p ρ1 H1 _ .refl hr1 (srcT_of hq rl)⟩))
    | str xs => exact .inr (.inr (done (fun x => ∃ n, x = .str n) _ (fun x h2 e2 => by rw [q] at e2; cases e2; exact ⟨_, rfl⟩) fun ρ1 H1 h1 x v hr1 rv ⟨n, ex⟩ p => by
        subst ex
        cases rv
        exact ⟨_, rfl, p ρ1 H1 _ .refl hr1 srcS_of⟩))
    | _ =>
      unfold sItr bnd at p
      rw [q] at p
      exact p.elim
  | ex x h' =>
    refine .inl ⟨ρ, e, h, hs, hr, ?_⟩
    unfold sItr bnd at p
    rw [q] at p ⊢
    exact p
  | bad =>
    unfold sItr bnd at p
    rw [q] at p
    exact p.elim
end

/-! ### for, while -/
def aft (r : Rt) (k : Ss) : Rt := match r with
  | .nx e h => k e h
  | .ct e h => k e h
  | .bk e h => .nx e h
  | .rt x h => .rt x h
  | .ex x e h => .ex x e h
  | .bad => .bad
def stp (g : Tg) (b : Ss) (x : Va) : Ss := fun e h => match g x e h with
  | .ok e' h' => b e' h'
  | _ => .bad
def loop (s : Src) (b : Va → Ss) : Nat → Nat → Ss
  | 0, i => fun e h => match s i h with
    | some none => .nx e h
    | _ => .bad
  | k + 1, i => fun e h => match s i h with
    | some (some x) => aft (b x e h) (loop s b k (i + 1))
    | _ => .bad
def sFor (f : Sit) (g : Tg) (b : Ss) : Ss := bnS f fun s => loop s.1 (stp g b) s.2 0
def whl (t : Sm Bool) (b : Ss) : Nat → Ss
  | 0 => fun _ _ => .bad
  | k + 1 => fun e h => match t e h with
    | .ok true h' => aft (b e h') (whl t b k)
    | .ok false h' => .nx e h'
    | .ex x h' => .ex x e h'
    | .bad => .bad
section
variable {X : Cx} {W : WX} {tg iter c : Expr} {body : List Stmt} {f : Sit} {g : Tg} {b : Ss} {t : Sm Bool} {pos : Pos}
theorem PoS_aft {D : Ends} {ρ : List Addr} {H : Hp} {k : Ss} {N : L2.St → Hp → Prop} (hN : ∀ ρ' H' σ' e h, Ext (ctOf X) ρ H ρ' H' → HR (ctOf X) ρ' h H' → SR (ctOf X) ρ' H' e σ' → PoS (ctOf X) W D ρ' H' (k e h) → N σ' H') : ∀ {r : Rt}, PoS (ctOf X) W D ρ H (aft r k) → PoS (ctOf X) W { D with nx := N, ct := N, bk := D.nx } ρ H r
  | .nx e' h', p => fun ρ' H' σ' ex hr hs => hN ρ' H' σ' e' h' ex hr hs (PoS.mono ex p)
  | .ct e' h', p => fun ρ' H' σ' ex hr hs => hN ρ' H' σ' e' h' ex hr hs (PoS.mono ex p)
  | .bk _ _, p => p
  | .rt _ _, p => p
  | .ex _ _ _, p => p
  | .bad, p => p
theorem sp_for (hp : PassesOwn (model X.prog X.w) X.A X.env X.xe) (hc : X.calm = true) (hi : PI X tg iter (tIt (ctOf X) W f)) (hg : PG X tg (tTg (ctOf X) g)) (hb : PSs X body (tS_ X W b)) (hs : ∀ x, foldedSetIterable iter X.env x = pure x := by intro _; rfl) :
    PS X (.For tg iter body [] pos) (tS_ X W (sFor f g b)) := ps_of (ps_for hp hc hi hg hb hs) fun D σ H h => tSt_bnS h fun ρ H1 e h1 s J hs hr sr p => by
  refine ⟨fun i m σ H => ∃ ρ1 e h, SR (ctOf X) ρ1 H e σ ∧ HR (ctOf X) ρ1 h H ∧ Ext (ctOf X) ρ H1 ρ1 H ∧ PoS (ctOf X) W D ρ1 H (loop s.1 (stp g b) m i e h), ⟨s.2, ρ, e, h1, hs, hr, .refl, p⟩, ?_⟩
  rintro i m σ2 H2 ⟨ρ2, e2, h2, hs2, hr2, ex2, p2⟩
  cases m with
  | zero =>
    unfold loop at p2
    split at p2
    · rename_i q
      exact .inl ⟨sr.stp ρ2 H2 h2 i ex2 hr2 q, p2 ρ2 H2 σ2 .refl hr2 hs2⟩
    · exact p2.elim
  | succ m =>
    unfold loop at p2
    split at p2
    · rename_i x q
      obtain ⟨go, gy⟩ := sr.go ρ2 H2 h2 i x ex2 hr2 q
      refine .inr ⟨go, fun σ' H' => ∃ ρ1 e h, SR (ctOf X) ρ1 H' e σ' ∧ HR (ctOf X) ρ1 h H' ∧ Ext (ctOf X) ρ H1 ρ1 H' ∧ PoS (ctOf X) W D ρ1 H' (loop s.1 (stp g b) m (i + 1) e h), fun σ' H' w => ⟨m, Nat.lt_succ_self m, w⟩, fun v H3 y => ?_⟩
      obtain ⟨ex3, hr3, rx⟩ := gy v H3 y
      refine ⟨ρ2, e2, h2, x, hs2.mono ex3, hr3, rx, ?_⟩
      have p3 := PoS.mono ex3 p2
      unfold stp at p3
      cases q2 : g x e2 h2 with
      | ok e' h' =>
        rw [q2] at p3
        exact fun ρ' H' σ' ex hr' hs' => ⟨ρ', e', h', hs', hr', PoS_aft (fun ρ5 H5 σ5 e5 h5 ex5 hr5 hs5 p5 => ⟨ρ5, e5, h5, hs5, hr5, ((ex2.trans ex3).trans ex).trans ex5, p5⟩) (PoS.mono ex p3)⟩
      | ex _ _ => rw [q2] at p3; exact p3.elim
      | bad => rw [q2] at p3; exact p3.elim
    · exact p2.elim
theorem sp_while (n : Nat) (hp : PassesOwn (model X.prog X.w) X.A X.env X.xe) (hc : PT X c (tB_ X W t)) (hb : PSs X body (tS_ X W b)) : PS X (.While c body [] pos) (tS_ X W (whl t b n)) := ps_of (ps_while hp hc hb) fun D σ H ⟨ρ, e, h, hs, hr, p⟩ => by
  refine ⟨fun m σ H => ∃ ρ1 e h, SR (ctOf X) ρ1 H e σ ∧ HR (ctOf X) ρ1 h H ∧ PoS (ctOf X) W D ρ1 H (whl t b m e h), ⟨n, ρ, e, h, hs, hr, p⟩, ?_⟩
  rintro m σ2 H2 ⟨ρ2, e2, h2, hs2, hr2, p2⟩
  cases m with
  | zero => exact p2.elim
  | succ m =>
    unfold whl at p2
    refine ⟨ρ2, e2, h2, hs2, hr2, ?_⟩
    cases q : t e2 h2 with
    | ok k h3 =>
      rw [q] at p2
      intro ρ3 H3 v ex3 hr3 rv
      have rv : k = v := rv
      subst rv
      cases k with
      | true =>
        refine iteT ⟨fun σ' H' => ∃ ρ1 e h, SR (ctOf X) ρ1 H' e σ' ∧ HR (ctOf X) ρ1 h H' ∧ PoS (ctOf X) W D ρ1 H' (whl t b m e h), fun σ' H' w => ⟨m, Nat.lt_succ_self m, w⟩, ρ3, e2, h3, hs2.mono ex3, hr3, ?_⟩
        exact PoS_aft (fun ρ5 H5 σ5 e5 h5 ex5 hr5 hs5 p5 => ⟨ρ5, e5, h5, hs5, hr5, p5⟩) (PoS.mono ex3 p2)
      | false => exact iteF (p2 ρ3 H3 σ2 ex3 hr3 (hs2.mono ex3))
    | ex x h3 => rw [q] at p2; exact fun ρ' H' cls d a b c => p2 ρ' H' σ2 cls d a b (hs2.mono a) c
    | bad => rw [q] at p2; exact p2.elim
end
end Fw

set_option Elab.async false
set_option linter.all false
set_option maxRecDepth 100000
set_option maxHeartbeats 2000000
set_option autoImplicit false
namespace Fw
open PySem PySem.Spec L2

/-! ### keeping, without the frame -/
structure Ex0 (C : Ct) (ρ : List Addr) (H : Hp) (ρ' : List Addr) (H' : Hp) : Prop where
  pre : ∀ (n : Nat) (a : Addr), ρ[n]? = some a → ρ'[n]? = some a
  tup : ∀ a vs, SqT C.K H a vs → SqT C.K H' a vs
  frz : ∀ a o u, H a = some (.frz o u) → H' a = some (.frz o u)
theorem SqD.keep {C : Ct} {ρ ρ' : List Addr} {H H' : Hp} (x : Ex0 C ρ H ρ' H') {a : Addr} {vs : List V} (h : SqD C.K H a vs) : SqD C.K H' a vs := ⟨x.tup _ _ h.sq, let ⟨o, u, e, t⟩ := h.dn; ⟨o, u, x.frz _ _ _ e, t⟩⟩
mutual
theorem Rp.keep {C : Ct} {ρ ρ' : List Addr} {H H' : Hp} (x : Ex0 C ρ H ρ' H') : ∀ {y : Va} {v : V}, Rp C ρ H y v → Rp C ρ' H' y v
  | _, _, .non => .non
  | _, _, .bl b => .bl b
  | _, _, .int i => .int i
  | _, _, .str s => .str s
  | _, _, .tup h r => .tup (h.keep x) (RpL.keep x r)
  | _, _, .tpw h r => .tpw (x.tup _ _ h) (RpL.keep x r)
  | _, _, .ros h r => .ros (h.elim (fun ⟨o, q⟩ => .inl ⟨o, x.frz _ _ _ q⟩) .inr) (RpL.keep x r)
  | _, _, .loc h => .loc (x.pre _ _ h)
  | _, _, .fn h => .fn h
  | _, _, .ty n => .ty n
  | _, _, .rg h => .rg (x.frz _ _ _ h)
theorem RpL.keep {C : Ct} {ρ ρ' : List Addr} {H H' : Hp} (x : Ex0 C ρ H ρ' H') : ∀ {y : List Va} {v : List V}, RpL C ρ H y v → RpL C ρ' H' y v
  | _, _, .nil => .nil
  | _, _, .cons h r => .cons (Rp.keep x h) (RpL.keep x r)
end
theorem RpK.keep {C : Ct} {ρ ρ' : List Addr} {H H' : Hp} {xs : List (Va × Va)} {vs : List (Key × V)} (r : RpK C ρ H xs vs) (x : Ex0 C ρ H ρ' H') : RpK C ρ' H' xs vs := r.map fun q => q.keep x
section
variable {C : Ct} {ρ ρ1 : List Addr} {H H1 : Hp} {h : Hs} {D : Addr} {w w' : List V}
/-- a list that stands apart from ours is written -/
theorem ex0_away (hD : H D = some (.lst w)) : Ex0 C ρ H ρ (upd H D (.lst w')) where
  pre := fun _ _ h => h
  tup := fun a vs q => by
    have na : ∀ u, H a = some u → (∀ z, u ≠ .lst z) → a ≠ D := fun u e nz z => by
      rw [z, hD] at e
      exact nz w (Option.some.inj e).symm
    rcases q with (q | ⟨o, q⟩) | q
    · exact .inl (.inl (by rw [upd_ne (na _ q fun z e => by cases e)]; exact q))
    · exact .inl (.inr ⟨o, by rw [upd_ne (na _ q fun z e => by cases e)]; exact q⟩)
    · exact .inr q
  frz := fun a o u q => by
    rw [upd_ne (fun z => by rw [z, hD] at q; cases q)]
    exact q
theorem HR.away (hr : HR C ρ h H) (hD : H D = some (.lst w)) (hn : ∀ n : Nat, ρ[n]? ≠ some D) : HR C ρ h (upd H D (.lst w')) := by
  refine ⟨hr.len, hr.nd, fun n o a hn' ha => ?_⟩
  have q := hr.ob n o a hn' ha
  revert q
  cases o with
  | lst xs => rintro ⟨vs, e1, e2⟩; exact ⟨vs, by rw [upd_ne (fun z => hn n (by rw [← z]; exact ha))]; exact e1, e2.keep (ex0_away hD)⟩
  | dct k => rintro ⟨vs, e1, e2⟩; exact ⟨vs, by rw [upd_ne (fun z => hn n (by rw [← z]; exact ha))]; exact e1, e2.keep (ex0_away hD)⟩
theorem Ext.mut_ (e : Ext C ρ H ρ1 H1) (h0 : H D = none) (hD : H1 D = some (.lst w)) : Ext C ρ H ρ1 (upd H1 D (.lst w')) where
  pre := e.pre
  tup := fun a vs q => (ex0_away (C := C) (ρ := ρ1) hD).tup a vs (e.tup a vs q)
  frz := fun a o u q => (ex0_away (C := C) (ρ := ρ1) hD).frz a o u (e.frz a o u q)
  new := e.new
  frm := fun a o q hn => by
    rw [upd_ne (ne_of_none q h0)]
    exact e.frm a o q hn
  liv := fun a o q => by
    obtain ⟨o', q'⟩ := e.liv a o q
    exact ⟨o', by rw [upd_ne (ne_of_none q h0)]; exact q'⟩
/-- it becomes ours -/
theorem HR.adopt (hr : HR C ρ1 h H1) (e : Ext C ρ H ρ1 H1) (h0 : H D = none) (hD : H1 D = some (.lst w)) (hn : ∀ n : Nat, ρ1[n]? ≠ some D) {xs : List Va} (r : RpL C ρ1 H1 xs w) :
    Ext C ρ H (ρ1 ++ [D]) H1 ∧ HR C (ρ1 ++ [D]) (h ++ [.lst xs]) H1 ∧ Rp C (ρ1 ++ [D]) H1 (.loc h.length) (.ref D) := by
  have x0 : Ex0 C ρ1 H1 (ρ1 ++ [D]) H1 := ⟨fun n a q => by rw [List.getElem?_append_left (List.getElem?_eq_some_iff.mp q).1]; exact q, fun _ _ q => q, fun _ _ _ q => q⟩
  have last : ∀ (n : Nat) (a : Addr), (ρ1 ++ [D])[n]? = some a → (n < ρ1.length ∧ ρ1[n]? = some a) ∨ (n = ρ1.length ∧ a = D) := fun n a q => by
    by_cases hl : n < ρ1.length
    · rw [List.getElem?_append_left hl] at q
      exact .inl ⟨hl, q⟩
    · have l := (List.getElem?_eq_some_iff.mp q).1
      simp at l
      have en : n = ρ1.length := by omega
      subst en
      simp at q
      exact .inr ⟨rfl, q.symm⟩
  refine ⟨⟨fun n a q => x0.pre n a (e.pre n a q), e.tup, e.frz, fun n a q => ?_, e.frm, e.liv⟩, ⟨by simp [hr.len], fun i j a hi hj => ?_, fun n o a ho ha => ?_⟩, .loc (by rw [← hr.len]; simp)⟩
  · rcases last n a q with ⟨_, q⟩ | ⟨_, rfl⟩
    · exact e.new n a q
    · exact .inr h0
  · rcases last i a hi with ⟨_, q1⟩ | ⟨rfl, rfl⟩ <;> rcases last j _ hj with ⟨_, q2⟩ | ⟨e2, e3⟩
    · exact hr.nd i j a q1 q2
    · subst e3; exact absurd q1 (hn i)
    · exact absurd q2 (hn j)
    · exact e2.symm
  · rcases last n a ha with ⟨l, q⟩ | ⟨rfl, rfl⟩
    · rw [List.getElem?_append_left (by rw [← hr.len]; exact l)] at ho
      have z := hr.ob n o a ho q
      revert z
      cases o with
      | lst ys => rintro ⟨vs, e1, e2⟩; exact ⟨vs, e1, e2.keep x0⟩
      | dct k => rintro ⟨vs, e1, e2⟩; exact ⟨vs, e1, e2.keep x0⟩
    · rw [hr.len] at ho
      simp at ho
      subst ho
      exact ⟨w, hD, r.keep x0⟩
end

/-! ### comprehensions -/
def wipeE (e : En) : List Nat → En
  | [] => e
  | v :: vs => (wipeE e vs).set v none
theorem SR.setN {C : Ct} {ρ : List Addr} {H : Hp} {e : En} {σ : L2.St} (h : SR C ρ H e σ) (i : Nat) : SR C ρ H (e.set i none) (σ.set i none) := by
  refine ⟨by simp [h.1], fun j y q => ?_⟩
  by_cases hij : i = j
  · subst hij
    rw [List.getElem?_set] at q
    by_cases hl : i < e.length
    · simp [hl] at q
    · simp [hl] at q
  · rw [List.getElem?_set_ne hij] at q ⊢
    exact h.2 j y q
theorem SR.wipe {C : Ct} {ρ : List Addr} {H : Hp} {e : En} {σ : L2.St} (h : SR C ρ H e σ) : ∀ vs, SR C ρ H (wipeE e vs) (L2.wipe σ vs)
  | [] => h
  | v :: vs => (SR.wipe h vs).setN v
theorem SR.keep {C : Ct} {ρ ρ' : List Addr} {H H' : Hp} {e : En} {σ : L2.St} (x : Ex0 C ρ H ρ' H') (h : SR C ρ H e σ) : SR C ρ' H' e σ :=
  ⟨h.1, fun i y q => let ⟨v, e1, r⟩ := h.2 i y q; ⟨v, e1, r.keep x⟩⟩
/-- a target of names alone -/
def NT (C : Ct) (vs : List Nat) (g : TG) (f : Tg) : Prop := ∀ (ρ : List Addr) (H : Hp) (e : En) (h : Hs) (x : Va) (v : V) (σ : L2.St) (Q : L2.St → Hp → Prop) (e' : En) (h' : Hs), SR C ρ H e σ → HR C ρ h H → Rp C ρ H x v → f x e h = .ok e' h' →
  (∀ σ', h' = h → SR C ρ H e' σ' → L2.wipe σ' vs = L2.wipe σ vs → Q σ' H) → g v σ H Q
def NTs (C : Ct) (vs : List Nat) (g : TGs) (f : Tgs) : Prop := ∀ (ρ : List Addr) (H : Hp) (e : En) (h : Hs) (x : List Va) (v : List V) (σ : L2.St) (Q : L2.St → Hp → Prop) (e' : En) (h' : Hs), SR C ρ H e σ → HR C ρ h H → RpL C ρ H x v → f x e h = .ok e' h' →
  (∀ σ', h' = h → SR C ρ H e' σ' → L2.wipe σ' vs = L2.wipe σ vs → Q σ' H) → g v σ H Q
theorem wipe_set {i : Nat} {o : Option V} : ∀ {vs : List Nat} {σ : L2.St}, i ∈ vs → L2.wipe (σ.set i o) vs = L2.wipe σ vs := by
  have comm : ∀ (vs : List Nat) (σ : L2.St), i ∉ vs → L2.wipe (σ.set i o) vs = (L2.wipe σ vs).set i o := by
    intro vs
    induction vs with
    | nil => intro σ _; rfl
    | cons v vs ih =>
      intro σ hi
      show (L2.wipe (σ.set i o) vs).set v none = ((L2.wipe σ vs).set v none).set i o
      rw [ih σ (fun z => hi (List.mem_cons_of_mem _ z)), List.set_comm]
      exact fun z => hi (by rw [z]; exact List.mem_cons_self)
  intro vs
  induction vs with
  | nil => intro σ h; cases h
  | cons v vs ih =>
    intro σ h
    show (L2.wipe (σ.set i o) vs).set v none = (L2.wipe σ vs).set v none
    by_cases hm : i ∈ vs
    · rw [ih hm]
    · have e : i = v := (List.mem_cons.mp h).resolve_right hm
      subst e
      rw [comm vs σ hm, List.set_set]
section
variable {C : Ct} {vs : List Nat}
theorem nt_name (i : Nat) (hi : i ∈ vs := by decide) : NT C vs (gName i) (gNm i) := fun ρ H e h x v σ Q e' h' hs hr rv q hQ => by
  cases q
  exact hQ _ rfl (hs.set i rv) (wipe_set hi)
theorem nts_nil : NTs C vs gNil gsNil := fun ρ H e h x v σ Q e' h' hs hr rv q hQ => by
  cases rv with
  | nil => cases q; exact ⟨rfl, hQ σ rfl hs rfl⟩
  | cons _ _ => cases q
theorem nts_cons {g : TG} {f : Tg} {gs : TGs} {fs : Tgs} (h1 : NT C vs g f) (h2 : NTs C vs gs fs) : NTs C vs (gCons g gs) (gsCons f fs) := fun ρ H e h x v σ Q e' h' hs hr rv q hQ => by
  cases rv with
  | nil => cases q
  | cons r1 r2 =>
    refine ⟨_, _, rfl, ?_⟩
    unfold gsCons at q
    dsimp only at q
    split at q
    · rename_i e1 hh1 q1
      exact h1 ρ H e h _ _ σ _ e1 hh1 hs hr r1 q1 fun σ1 eh hs1 w1 => by
        subst eh
        exact h2 ρ H e1 hh1 _ _ σ1 Q e' h' hs1 hr r2 q fun σ2 eh2 hs2 w2 => hQ σ2 eh2 hs2 (w2.trans w1)
    · cases q
theorem nt_tup {n : Nat} {gs : TGs} {fs : Tgs} (h1 : NTs C vs gs fs) : NT C vs (fun v σ H Q => gTup C.K n gs v σ H Q ∨ gUnl C.K n gs v σ H Q) (gTp n fs) := fun ρ H e h x v σ Q e' h' hs hr rv q hQ => by
  cases x with
  | tup xs =>
    have q : (if xs.length = n then fs xs e h else .bad) = Rs.ok e' h' := q
    split at q
    · rename_i hl
      cases rv with
      | tup hq rl => exact .inl ⟨_, _, rfl, hq.sq, by rw [← rl.length]; exact hl, h1 ρ H e h xs _ σ Q e' h' hs hr rl q hQ⟩
    · cases q
  | tpw xs =>
    have q : (if xs.length = n then fs xs e h else .bad) = Rs.ok e' h' := q
    split at q
    · rename_i hl
      cases rv with
      | tpw hq rl => exact .inl ⟨_, _, rfl, hq, by rw [← rl.length]; exact hl, h1 ρ H e h xs _ σ Q e' h' hs hr rl q hQ⟩
    · cases q
  | loc m =>
    have q : (match h[m]? with | some (.lst xs) => if xs.length = n then fs xs e h else .bad | _ => .bad) = Rs.ok e' h' := q
    split at q
    · rename_i xs hm
      obtain ⟨a, ws, rfl, ha, hl, rl⟩ := hr.ls_ hm rv
      split at q
      · rename_i hl2
        exact .inr ⟨_, _, rfl, SqL.of hl, by rw [← rl.length]; exact hl2, h1 ρ H e h xs _ σ Q e' h' hs hr rl q hQ⟩
      · cases q
    · cases q
  | _ => cases q
end
section
variable {X : Cx} {pos : Pos} {e : Expr} {es : List Expr}
theorem pg_or {t t' : TG} (h : PG X e t) (h' : PG X e t') : PG X e (fun v σ H Q => t v σ H Q ∨ t' v σ H Q) := ⟨fun pins s σ H v u Q I r q => q.elim (h.run pins s σ H v u Q I r) (h'.run pins s σ H v u Q I r)⟩
theorem pg_tl {k n : Nat} {t : TGs} (hc : X.calm = true) (h : PGs X es t) (hn : (assignEach es X.env).length = n := by rfl) (hst : (assignEach es X.env).findIdx? (·.1) = none := by rfl) : PG X (.Tuple es k pos) (fun v σ H Q => gTup X.K n t v σ H Q ∨ gUnl X.K n t v σ H Q) := pg_or (pg_tup hc h hn hst) (pg_unl hc h hn hst)
end

def lcl (s : Src) (g : Tg) (t : Sm Bool) (el : Sx) : Nat → Nat → En → Hs → Rs (List Va)
  | 0, i, _, h => match s i h with
    | some none => .ok [] h
    | _ => .bad
  | k + 1, i, e, h => match s i h with
    | some (some x) => match g x e h with
      | .ok e' h1 => match t e' h1 with
        | .ok true h2 => match el e' h2 with
          | .ok y h3 => match lcl s g t el k (i + 1) e h3 with
            | .ok ys h4 => .ok (y :: ys) h4
            | r => r
          | _ => .bad
        | .ok false h2 => lcl s g t el k (i + 1) e h2
        | _ => .bad
      | _ => .bad
    | _ => .bad
def tru : Sm Bool := fun _ h => .ok true h
def lst_ (acc : List Va) : Rs (List Va) → Rs Va
  | .ok ys h => newL (acc ++ ys) h
  | _ => .bad
def sLc (f : Sit) (g : Tg) (t : Sm Bool) (el : Sx) (own : List Nat) : Sx := bnd f fun s e h => lst_ [] (lcl s.1 g t el s.2 0 (wipeE e own) h)
abbrev W0 : WX := fun _ _ _ _ => False
section
variable {X : Cx} {W : WX} {f : Sit} {g : Tg} {t : Sm Bool} {el : Sx} {own : List Nat} {gg : TG} {pos : Pos} {c : Expr}
theorem sts_nil {W : WX} : PTs X [] (tB_ X W tru) := ⟨fun pins s σ H Q I ⟨ρ, e, h, hs, hr, p⟩ => pts_nil.run pins s σ H Q I (p ρ H true .refl hr rfl)⟩
theorem sts_one {W : WX} (h : PT X c (tB_ X W t)) : PTs X [c] (tB_ X W t) := pts_one h
theorem tLc_of (hg : NT (ctOf X) own gg g) : ∀ σ H Q, tE (ctOf X) W (sLc f g t el own) σ H Q → tLc (tIt (ctOf X) W f) gg (tB_ X W0 t) (tE (ctOf X) W0 el) own σ H Q := fun σ H Q h => tX_bnd h fun ρ H1 e h1 s J hs hr sr p D hD => by
  have small : ∀ {acc : List Va} {r : Rs (List Va)}, Po (ctOf X) (Rp (ctOf X)) (fun c d H' => W c d σ H') Q ρ H1 (lst_ acc r) → ∃ ys h', r = .ok ys h' ∧ acc.length + ys.length ≤ 16777216 := fun {acc r} p => by
    cases r with
    | ok ys h' =>
      have p : Po (ctOf X) (Rp (ctOf X)) (fun c d H' => W c d σ H') Q ρ H1 (newL (acc ++ ys) h') := p
      unfold newL at p
      split at p
      · rename_i hl
        exact ⟨ys, h', rfl, by rw [List.length_append] at hl; exact hl⟩
      · exact p.elim
    | ex _ _ => exact p.elim
    | bad => exact p.elim
  have nD : ∀ n : Nat, ρ[n]? ≠ some D := fun n q => by
    obtain ⟨o, ho⟩ := hr.sm_ q
    rw [hD] at ho; cases ho
  refine ⟨fun i m H => ∃ (ρ1 : List Addr) (h : Hs) (acc : List Va) (accV : List V), Ext (ctOf X) ρ H1 ρ1 H ∧ HR (ctOf X) ρ1 h H ∧ (∀ n : Nat, ρ1[n]? ≠ some D) ∧ H D = some (.lst accV) ∧ RpL (ctOf X) ρ1 H acc accV ∧ SR (ctOf X) ρ1 H (wipeE e own) (L2.wipe σ own) ∧
    Po (ctOf X) (Rp (ctOf X)) (fun c d H' => W c d σ H') Q ρ H1 (lst_ acc (lcl s.1 g t el m i (wipeE e own) h)), ⟨s.2, ρ, h1, [], [], ext_new hD, hr.tup_ hD, nD, upd_same, .nil, (hs.mono (ext_new hD)).wipe own, p⟩, ?_⟩
  rintro i m H2 ⟨ρ2, h2, acc, accV, ex2, hr2, nD2, hD2, ra, hs2, p2⟩
  cases m with
  | zero =>
    obtain ⟨ys, h', q, hl⟩ := small p2
    rw [q] at p2
    unfold lcl at q
    split at q
    · rename_i q1
      cases q
      refine .inl ⟨sr.stp ρ2 H2 h2 i ex2 hr2 q1, ?_⟩
      have p2 : Po (ctOf X) (Rp (ctOf X)) (fun c d H' => W c d σ H') Q ρ H1 (newL (acc ++ []) h2) := p2
      rw [List.append_nil] at p2
      unfold newL at p2
      split at p2
      · obtain ⟨a1, a2, a3⟩ := hr2.adopt ex2 hD hD2 nD2 ra
        exact p2 _ _ _ a1 a2 a3
      · exact p2.elim
    · cases q
  | succ m =>
    obtain ⟨ys, h', q, hl⟩ := small p2
    have p0 := p2
    rw [q] at p2
    unfold lcl at q
    split at q
    · rename_i x q1
      obtain ⟨go, gy⟩ := sr.go ρ2 H2 h2 i x ex2 hr2 q1
      refine .inr ⟨go, fun H' => ∃ (ρ1 : List Addr) (h : Hs) (acc : List Va) (accV : List V), Ext (ctOf X) ρ H1 ρ1 H' ∧ HR (ctOf X) ρ1 h H' ∧ (∀ n : Nat, ρ1[n]? ≠ some D) ∧ H' D = some (.lst accV) ∧ RpL (ctOf X) ρ1 H' acc accV ∧ SR (ctOf X) ρ1 H' (wipeE e own) (L2.wipe σ own) ∧
        Po (ctOf X) (Rp (ctOf X)) (fun c d H' => W c d σ H') Q ρ H1 (lst_ acc (lcl s.1 g t el m (i + 1) (wipeE e own) h)), fun H' w => ⟨m, Nat.lt_succ_self m, w⟩, fun v H3 y => ?_⟩
      obtain ⟨ex3, hr3, rx⟩ := gy v H3 y
      have hD3 : H3 D = some (.lst accV) := ex3.frm D _ hD2 nD2
      split at q
      · rename_i e' h3 q2
        refine hg ρ2 H3 _ h2 x v _ _ e' h3 (hs2.mono ex3) hr3 rx q2 fun σ' eh hs3 hw => ?_
        subst eh
        refine ⟨hw.trans ?_, ρ2, e', h3, hs3, hr3, ?_⟩
        · -- wiped twice
          have tw : ∀ vs : List Nat, ∀ σ : L2.St, (∀ i ∈ vs, i ∈ own) → L2.wipe (L2.wipe σ vs) own = L2.wipe σ own := by
            intro vs
            induction vs with
            | nil => intro σ _; rfl
            | cons v vs ih =>
              intro σ hv
              show L2.wipe ((L2.wipe σ vs).set v none) own = _
              rw [wipe_set (hv v List.mem_cons_self)]
              exact ih σ fun i hi => hv i (List.mem_cons_of_mem _ hi)
          exact tw own σ fun _ hi => hi
        · split at q
          · rename_i h4 q3
            rw [q3]
            intro ρ4 H4 k ex4 hr4 ek
            have ek : true = k := ek
            subst ek
            refine iteT ⟨ρ4, e', h4, hs3.mono ex4, hr4, ?_⟩
            have nD4 : ∀ n : Nat, ρ4[n]? ≠ some D := fun n z => by
              rcases ex4.new n D z with z | z
              · exact nD2 n z
              · rw [hD3] at z; cases z
            have hD4 : H4 D = some (.lst accV) := ex4.frm D _ hD3 nD2
            split at q
            · rename_i y h5 q4
              rw [q4]
              intro ρ5 H5 w ex5 hr5 rw_
              have nD5 : ∀ n : Nat, ρ5[n]? ≠ some D := fun n z => by
                rcases ex5.new n D z with z | z
                · exact nD4 n z
                · rw [hD4] at z; cases z
              have hD5 : H5 D = some (.lst accV) := ex5.frm D _ hD4 nD4
              have exs : Ext (ctOf X) ρ H1 ρ5 H5 := ((ex2.trans ex3).trans ex4).trans ex5
              have ra5 : RpL (ctOf X) ρ5 H5 acc accV := ((ra.mono ex3).mono ex4).mono ex5
              have x0 := ex0_away (C := ctOf X) (ρ := ρ5) (w' := accV ++ [w]) hD5
              refine ⟨accV, hD5, ?_, ρ5, h5, acc ++ [y], accV ++ [w], exs.mut_ hD hD5, hr5.away hD5 nD5, nD5, upd_same, (ra5.append (.cons rw_ .nil)).keep x0, (((hs2.mono ex3).mono ex4).mono ex5).keep x0, ?_⟩
              · rw [← ra5.length, line_eq]
                split at q
                · cases q
                  have : acc.length + (_ :: _ : List Va).length ≤ 16777216 := hl
                  simp at this
                  omega
                · rename_i hx
                  exact (hx _ _ q).elim
              · unfold lcl at p0
                rw [q1] at p0
                simp only [q2, q3, q4] at p0
                cases q5 : lcl s.1 g t el m (i + 1) (wipeE e own) h5 with
                | ok zs h6 =>
                  rw [q5] at p0
                  show Po (ctOf X) (Rp (ctOf X)) (fun c d H' => W c d σ H') Q ρ H1 (newL ((acc ++ [y]) ++ zs) h6)
                  rw [List.append_assoc]
                  exact p0
                | ex _ _ => rw [q5] at p0; exact p0.elim
                | bad => rw [q5] at p0; exact p0.elim
            · cases q
          · rename_i h4 q3
            rw [q3]
            intro ρ4 H4 k ex4 hr4 ek
            have ek : false = k := ek
            subst ek
            have nD4 : ∀ n : Nat, ρ4[n]? ≠ some D := fun n z => by
              rcases ex4.new n D z with z | z
              · exact nD2 n z
              · rw [hD3] at z; cases z
            refine iteF ⟨ρ4, h4, acc, accV, (ex2.trans ex3).trans ex4, hr4, nD4, ex4.frm D _ hD3 nD2, (ra.mono ex3).mono ex4, (hs2.mono ex3).mono ex4, ?_⟩
            unfold lcl at p0
            rw [q1] at p0
            simp only [q2, q3] at p0
            exact p0
          · cases q
      · cases q
    · cases q
theorem se_lc {elt tg iter : Expr} {ifs : List Expr} {scope : Scope} {ow : List (Str × Nat)} (hc : X.calm = true) (hN : X.N.Nodup) (hi : PI X tg iter (tIt (ctOf X) W f)) (ok : BlkOk X.N X.env.scope scope ow) (hg : NT (ctOf X) own gg g)
    (hp : ∀ (s : Shared) (H : Hp) (C : Addr) (cl : List (Str × Addr)) (fp : List Addr), PG (X.blk s H scope (compEnvC scope cl C X.env) fp) tg gg) (ht : ∀ (s : Shared) (H : Hp) (C : Addr) (cl : List (Str × Addr)) (fp : List Addr), PTs (X.blk s H scope (compEnvC scope cl C X.env) fp) ifs (tB_ X W0 t))
    (he : ∀ (s : Shared) (H : Hp) (C : Addr) (cl : List (Str × Addr)) (fp : List Addr), PE (X.blk s H scope (compEnvC scope cl C X.env) fp) elt (tE (ctOf X) W0 el)) (hs : ∀ x, foldedSetIterable iter X.env x = pure x := by intro _; rfl) (ho : ow.map (·.2) = own := by rfl) :
    PE X (.ListComp elt [⟨tg, iter, ifs, 0⟩] scope pos) (tE (ctOf X) W (sLc f g t el own)) := by
  subst ho
  exact pe_of (pe_lc hc hN hi ok hp ht he hs) (tLc_of hg)
theorem sp_setLc (i : Nat) {y : Str} {py spos : Pos} {elt tg iter : Expr} {ifs : List Expr} {scope : Scope} {ow : List (Str × Nat)} (hc : X.calm = true) (hN : X.N.Nodup) (hy : X.N[i]? = some y) (hyl : X.env.scope.names.lookup y = some .local) (hsw : swapsWith (.ListComp elt [⟨tg, iter, ifs, 0⟩] scope pos) (some (.Name y py)) spos.line X.env = pure true)
    (hi : PI X tg iter (tIt (ctOf X) W f)) (ok : BlkOk X.N X.env.scope scope ow) (hg : NT (ctOf X) own gg g)
    (hp : ∀ (s : Shared) (H : Hp) (C : Addr) (cl : List (Str × Addr)) (fp : List Addr), PG (X.blk s H scope (compEnvC scope cl C X.env) fp) tg gg) (ht : ∀ (s : Shared) (H : Hp) (C : Addr) (cl : List (Str × Addr)) (fp : List Addr), PTs (X.blk s H scope (compEnvC scope cl C X.env) fp) ifs (tB_ X W0 t))
    (he : ∀ (s : Shared) (H : Hp) (C : Addr) (cl : List (Str × Addr)) (fp : List Addr), PE (X.blk s H scope (compEnvC scope cl C X.env) fp) elt (tE (ctOf X) W0 el)) (hs : ∀ x, foldedSetIterable iter X.env x = pure x := by intro _; rfl) (ho : ow.map (·.2) = own := by rfl) :
    PS X (.Assign [.Name y py] (.ListComp elt [⟨tg, iter, ifs, 0⟩] scope pos) spos) (tS_ X W (sSet i (sLc f g t el own))) := by
  subst ho
  refine ps_of (ps_setLc hc hN hy hyl hsw hi ok hp ht he hs) fun D σ H h => ?_
  refine tLc_of hg σ H _ ?_
  exact tSt_bnS h fun ρ H1 e h1 x v hs hr rv p => p ρ H1 _ .refl hr (hs.set i rv)
end
end Fw

set_option Elab.async false
set_option linter.all false
set_option maxRecDepth 100000
set_option maxHeartbeats 2000000
set_option autoImplicit false
namespace Fw
open PySem PySem.Spec L2
open PyProof.Rows hiding St

/-! ### defs -/
/-- a call's run by plain data: the bound arguments, the heap -/
abbrev Fn := List Va → Hs → Rs Va
def SpF (C : Ct) (F : Fn) (n : Nat) : Sp := fun vs H Q E => vs.length = n ∧ ∃ ρ h xs, RpL C ρ H xs vs ∧ HR C ρ h H ∧ Po C (Rp C) E Q ρ H (F xs h)
structure DefOk (P : Program) (w : World) (C : Ct) (base : Heap) (k : Nat) (f : Addr) (fd : FuncData) (ps : List Str) (F : Fn) : Prop where
  run : ∀ (A : Around) (outer : List Env) (s : Shared) (H : Hp) (args : Args) (us : List Value) (vs : List V) (Q : VK) (E : XK), Room k A → A.guards = some [] → Env0 P w C.K C.mg base A outer s H → BindsTo s fd args (ps.zip us) → Vals vs us → SpF C F ps.length vs H Q E →
    codeAny (model P w) A (.call (.ref f) args) (CR (L2.CX P w) outer P w H s Q E) s
theorem DefOk.mono {P : Program} {w : World} {C : Ct} {base : Heap} {j k : Nat} {f : Addr} {fd : FuncData} {ps : List Str} {F : Fn} (d : DefOk P w C base j f fd ps F) (h : j ≤ k) : DefOk P w C base k f fd ps F :=
  ⟨fun A outer s H args us vs Q E hr hg e0 hb r q => d.run A outer s H args us vs Q E (hr.mono h) hg e0 hb r q⟩
/-- a body run from its arguments; n: how many names -/
def runB (n : Nat) (b : Ss) : Fn := fun xs h => match b (xs.map some ++ List.replicate (n - xs.length) none) h with
  | .nx _ h' => .ok .non h'
  | .rt v h' => .ok v h'
  | .ex x _ h' => .ex x h'
  | _ => .bad
theorem sr_start {C : Ct} {ρ : List Addr} {H : Hp} {xs : List Va} {vs : List V} {N : List Str} (r : RpL C ρ H xs vs) : SR C ρ H (xs.map some ++ List.replicate (N.length - xs.length) none) (L2.start N vs) := by
  unfold L2.start
  refine ⟨by simp [r.length], fun i x q => ?_⟩
  by_cases hl : i < xs.length
  · rw [List.getElem?_append_left (by simpa using hl), List.getElem?_map] at q
    cases e : xs[i]? with
    | none => rw [e] at q; cases q
    | some y =>
      rw [e] at q
      cases q
      obtain ⟨v, h1, h2⟩ := r.get e
      refine ⟨v, ?_, h2⟩
      rw [List.getElem?_append_left (by rw [List.length_map, ← r.length]; exact hl), List.getElem?_map, h1]
      rfl
  · rw [List.getElem?_append_right (by simpa using hl), List.getElem?_replicate] at q
    split at q <;> cases q
section
variable {P : Program} {w : World} {K : PySem.W.Frag} {mg : Str → Option Value} {base : Heap}
/-- the context of a body -/
abbrev bodyX (P : Program) (w : World) (K : PySem.W.Frag) (mg : Str → Option Value) (base : Heap) (N : List Str) (qual : Str) (sc : Scope) (f : Addr) (cd : Value) (A : Around) (outer : List Env) (s : Shared) (H : Hp) (E : XK) : Cx := cxOf (L2.CX P w) P w K mg base N qual sc f cd A outer s H E
abbrev WB (E : XK) : WX := fun c d _ H => E c d H
theorem read_body {N : List Str} {X : Cx} {B : Ss} {body : List Stmt} {E : XK} {xs : List Va} {vs : List V} {Q : VK} {H : Hp} {ρ : List Addr} {h : Hs} {C : Ct} (r : RpL C ρ H xs vs) (hr : HR C ρ h H) (p : Po C (Rp C) E Q ρ H (runB N.length B xs h)) : tSt C (WB E) B { nx := fun _ H' => Q .non H', rt := Q } (L2.start N vs) H := by
  refine ⟨ρ, _, h, sr_start r, hr, ?_⟩
  unfold runB at p
  cases q : B (xs.map some ++ List.replicate (N.length - xs.length) none) h with
  | nx e h' => rw [q] at p; exact fun ρ' H' σ' ex hr' hs' => p ρ' H' .non ex hr' .non
  | rt v h' => rw [q] at p; exact p
  | bk e h' => rw [q] at p; exact p.elim
  | ct e h' => rw [q] at p; exact p.elim
  | ex x e h' => rw [q] at p; exact fun ρ' H' σ' c d ex hr' _ xr => p ρ' H' c d ex hr' xr
  | bad => rw [q] at p; exact p
theorem defOk_of {k : Nat} {f : Addr} {name qual : Str} {params : Arguments} {body : List Stmt} {sc : Scope} {dV kV doc pm cdv ct oc : Value} {an od : Option Addr} {osl : Array (Option Value)} {N ps : List Str} {B : Ss}
    (lk : K.lookup f = some ⟨oc, od, .func (PySem.W.fnOf name qual params body sc dV kV doc pm an cdv ct), osl⟩) (hcd : PySem.W.codeIn K cdv qual = true) (S : FnScope N ps sc)
    (hbody : ∀ (A : Around) (outer : List Env) (s : Shared) (H : Hp) (E : XK), Room k (A.deeper (envOfC qual sc s.heap.objs.size f cdv)) → A.guards = some [] → PSs (bodyX P w K mg base N qual sc f cdv A outer s H E) body (tSt ⟨K, mg⟩ (WB E) B)) :
    DefOk P w ⟨K, mg⟩ base (k + 1) f (PySem.W.fnOf name qual params body sc dV kV doc pm an cdv ct) ps (runB N.length B) := by
  constructor
  intro A outer s H args us vs Q E hr hg e0 hb r ⟨hl, ρ, h, xs, rx, hh, hp⟩
  have inK : K.In s.heap := e0.mod.kin.keeps fun b o e => (e0.bs b o e).1
  have nl : s.heap.NoLimit := e0.mod.nolimit.keeps fun b o e => (e0.bs b o e).1
  have kinds : ∀ y ∈ ps.zip us, sc.names.lookup y.1 = some .local ∨ (sc.names.lookup y.1 = some .cell ∧ ((cellsFrom (s.heap.objs.size + 1) sc.names []).lookup y.1).isSome = true) := by
    rintro ⟨n, v⟩ hy
    cases S.par n (List.of_mem_zip hy).1 with
    | inl q => exact Or.inl q
    | inr q => exact Or.inr ⟨q, PySem.W.cellsFrom_some _ _ _ (Or.inl q)⟩
  apply codeAny_call_function hr.depth (inK _ _ lk) rfl S.co S.gen rfl (PySem.W.codeRec_of inK hcd)
  apply hb
  apply wpAny_newFunctionEnv_cells S.kind kinds
  intro env he s1 x
  subst he
  refine ⟨nl.keeps x.toInCall.keep, codeAny_func ?_⟩
  have ht := hbody A outer s H E (hr.deeper _) hg
  have I : Inv (bodyX P w K mg base N qual sc f cdv A outer s H E) [] (L2.start N vs) H s1 := inv_start S hr.hd e0 hl r x
  have hq : tSt ⟨K, mg⟩ (WB E) B { nx := fun _ H' => Q .non H', rt := Q } (L2.start N vs) H := read_body (X := bodyX P w K mg base N qual sc f cdv A outer s H E) (body := body) rx hh hp
  have fin : ∀ {s' : Shared} {σ' : L2.St} {H' : Hp} {v : V} {u : Value}, Inv (bodyX P w K mg base N qual sc f cdv A outer s H E) [] σ' H' s' → RelV v u → Q v H' → CE outer P w H s Q u s' := by
    intro s' σ' H' v u J rv q
    exact ⟨v, H', J.os, J.bare, J.base, J.hok, rv, q⟩
  apply wpAny_mono (ht.run [] s1 (L2.start N vs) H _ I hq)
  · intro fl s' hs
    cases fl with
    | next =>
      obtain ⟨σ', H', J, q⟩ := hs
      exact fin (v := V.non) (u := Value.none) J rfl q
    | ret u =>
      obtain ⟨v, σ', H', J, rv, q⟩ := hs
      exact fin J rv q
    | brk => exact hs.elim fun _ z => z.elim fun _ y => False.elim y.2
    | cont => exact hs.elim fun _ z => z.elim fun _ y => False.elim y.2
  · intro e s' hs
    exact hs
end

/-! ### calls -/
/-- a def that stands under a name -/
structure Gfn (P : Program) (w : World) (C : Ct) (base : Heap) (k : Nat) (x : Str) (st : Stmt) (ps : List Str) (F : Fn) : Prop where
  ex : ∃ (f : Addr) (fd : FuncData), C.mg x = some (.ref f) ∧ PySem.W.keepIn C.K (.ref f) = true ∧ DefOk P w C base k f fd ps F ∧
    ∀ (us : List Value) (kw : List (Str × Value)) (r : List Value), (∀ (kV doc pm : Value) (an : Option Addr) (cdv ct : Value), bindArgs (PySem.W.fnOf x x (defArgs st) (defBody st) (defScope st) .none kV doc pm an cdv ct) ⟨us, kw⟩ = pure (ps.zip r)) → ∀ s, BindsTo s fd ⟨us, kw⟩ (ps.zip r)
theorem Gfn.mono {P : Program} {w : World} {C : Ct} {base : Heap} {j k : Nat} {x : Str} {st : Stmt} {ps : List Str} {F : Fn} (g : Gfn P w C base j x st ps F) (h : j ≤ k) : Gfn P w C base k x st ps F := by
  obtain ⟨f, fd, h1, h2, h3, h4⟩ := g.ex
  exact ⟨f, fd, h1, h2, h3.mono h, h4⟩
/-- how a call's values come to the parameters: n by place, m by name -/
def KwB (x : Str) (st : Stmt) (ps ks : List Str) (n m : Nat) (π : List Nat) : Prop := π.length = ps.length ∧ (∀ j ∈ π, j < n + m) ∧ ∀ (us ws : List Value), us.length = n → ws.length = m → ∀ (kV doc pm : Value) (an : Option Addr) (cdv ct : Value),
  bindArgs (PySem.W.fnOf x x (defArgs st) (defBody st) (defScope st) .none kV doc pm an cdv ct) ⟨us, ks.zip ws⟩ = pure (ps.zip (π.filterMap fun j => (us ++ ws)[j]?))
def sCall (F : Fn) (n : Nat) (π : List Nat) (f : Sm (List Va)) : Sx := bnd f fun xs => if xs.length = n then vl (F (π.filterMap fun j => xs[j]?)) else fun _ _ => .bad
def sCallK (F : Fn) (n m : Nat) (π : List Nat) (f g : Sm (List Va)) : Sx := bnd f fun xs => bnd g fun zs => if xs.length = n ∧ zs.length = m then vl (F (π.filterMap fun j => (xs ++ zs)[j]?)) else fun _ _ => .bad
theorem vals_pick {vs : List V} {us : List Value} (r : Vals vs us) : ∀ π : List Nat, Vals (π.filterMap fun j => vs[j]?) (π.filterMap fun j => us[j]?)
  | [] => .nil
  | j :: π => by
    have ih := vals_pick r π
    cases e : vs[j]? with
    | none => simp only [List.filterMap_cons, e, r.none_of e]; exact ih
    | some v =>
      obtain ⟨u, h1, h2⟩ := r.get e
      simp only [List.filterMap_cons, e, h1]
      exact .cons h2 ih
theorem rp_pick {C : Ct} {ρ : List Addr} {H : Hp} {vs : List Va} {us : List V} (r : RpL C ρ H vs us) : ∀ π : List Nat, RpL C ρ H (π.filterMap fun j => vs[j]?) (π.filterMap fun j => us[j]?)
  | [] => .nil
  | j :: π => by
    have ih := rp_pick r π
    cases e : vs[j]? with
    | none =>
      have e2 : us[j]? = none := by
        have := List.getElem?_eq_none_iff.mp e
        exact List.getElem?_eq_none_iff.mpr (by rw [← r.length]; exact this)
      simp only [List.filterMap_cons, e, e2]; exact ih
    | some v =>
      obtain ⟨u, h1, h2⟩ := r.get e
      simp only [List.filterMap_cons, e, h1]
      exact .cons h2 ih
theorem pick_len {α : Type} {xs : List α} {n : Nat} (hx : xs.length = n) : ∀ {π : List Nat}, (∀ j ∈ π, j < n) → (π.filterMap fun j => xs[j]?).length = π.length
  | [], _ => rfl
  | j :: π, h => by
    have hj : j < xs.length := by rw [hx]; exact h j List.mem_cons_self
    simp only [List.filterMap_cons, List.getElem?_eq_getElem hj, List.length_cons]
    rw [pick_len hx fun i hi => h i (List.mem_cons_of_mem _ hi)]
section
variable {X : Cx} {W : WX} {k j : Nat} {x : Str} {st : Stmt} {ps ks : List Str} {F : Fn} {π : List Nat} {fa : Sm (List Va)} {p pos : Pos} {e : Expr} {es : List Expr} {kws : List Keyword}
/-- the callee runs -/
theorem run_def {f : Addr} {fd : FuncData} (D : DefOk X.prog X.w (ctOf X) X.base j f fd ps F) (hr : Room k X.A) (hj : j ≤ k) (hg : X.A.guards = some []) (tk : Takes X W) {pins : List (Addr × Obj)} {s : Shared} {σ : L2.St} {H : Hp} {Q : VK} {us : List Value} {kw : List (Str × Value)} {r : List Value} {vs : List V}
    (I : Inv X pins σ H s) (hb : BindsTo s fd ⟨us, kw⟩ (ps.zip r)) (rv : Vals vs r) (h : SpF (ctOf X) F ps.length vs H Q (WE W σ)) : wpAny (model X.prog X.w) X.A (call (.ref f) us kw) (EP X pins σ Q) X.xe s := by
  refine wpAny_call (codeAny_mono (D.run X.A X.stack s H ⟨us, kw⟩ r vs Q (WE W σ) (hr.mono hj) hg I.env0 hb rv h) fun res s' hq => ?_)
  cases res with
  | error e => exact passAt tk σ pins H s e s' I hq
  | ok fl => cases fl with
    | ret u => exact I.after hq
    | _ => exact False.elim hq
/-- f(a, b, .., x = c, ..): every value first, then the callee -/
theorem po_call {σ : L2.St} {Q : VK} {ρ : List Addr} {H : Hp} {h : Hs} {xs : List Va} {vs : List V} {n : Nat} (hr : HR (ctOf X) ρ h H) (r : RpL (ctOf X) ρ H xs vs) (hn : vs.length = n) (hπ : π.length = ps.length) (hj : ∀ j ∈ π, j < n) (p : Po (ctOf X) (Rp (ctOf X)) (fun c d H' => W c d σ H') Q ρ H (F (π.filterMap fun j => xs[j]?) h)) :
    SpF (ctOf X) F ps.length (π.filterMap fun j => vs[j]?) H Q (WE W σ) := ⟨by rw [pick_len hn hj, hπ], ρ, h, _, rp_pick r π, hr, p⟩
theorem se_call (n : Nat) (G : Gfn X.prog X.w (ctOf X) X.base j x st ps F) (hr : Room k X.A) (hj : j ≤ k) (hg : X.A.guards = some []) (tk : Takes X W) (hx : Gl X x) (B : KwB x st ps [] n 0 π) (ha : PA X (e :: es) (tAr (ctOf X) W fa))
    (hdb : (x == ("__debug__" : Str)) = false := by decide) (he : starEach (e :: es) X.env = (false, eval e X.env) :: starEach es X.env := by rfl) (hpl : (backTo pos (starEach es X.env)).any (·.1) = false := by rfl) :
    PE X (.Call (.Name x p) (e :: es) [] pos) (tE (ctOf X) W (sCall F n π fa)) := by
  obtain ⟨f, fd, hm, hk, D, hb⟩ := G.ex
  refine ⟨fun pins s σ H Q I h => wpAny_Call_Name_kw (ld_glob I hx hm ?_ hdb)⟩
  have h2 : tAr (ctOf X) W fa σ H fun vs H1 => vs.length = n ∧ SpF (ctOf X) F ps.length (π.filterMap fun j => vs[j]?) H1 Q (WE W σ) := tX_bnd h fun ρ H1 e1 h1 xs vs hs hh rv pp => by
    split at pp
    · rename_i hl
      have hl2 : vs.length = n + 0 := by rw [← rv.length]; exact hl
      exact ⟨hl2, po_call hh rv hl2 B.1 B.2.1 pp⟩
    · exact pp.elim
  refine PySem.W.callWith_K (h₀ := X.base) I.ok.mod.kin hk (thn (ha.run pos pins s σ H _ I h2) fun us s1 ⟨vs, H1, I1, r, hl, q⟩ => ⟨I1.kIn, ?_⟩) he hpl
  have hlu : us.length = n := by rw [← r.length]; exact hl
  have q2 := hb us [] _ (fun a b c d e f => by have := B.2.2 us [] hlu rfl a b c d e f; simpa using this) s1
  exact run_def D hr hj hg tk I1 q2 (vals_pick r π) q
end
end Fw

set_option Elab.async false
set_option linter.all false
set_option maxRecDepth 100000
set_option maxHeartbeats 2000000
set_option autoImplicit false
namespace Fw
open PySem PySem.Spec L2
open PyProof.Rows hiding St

/-! ### values without places; a callee in a heap of its own -/
mutual
def lf : Va → Bool
  | .tup xs => lfL xs
  | .ros xs => lfL xs
  | .loc _ => false
  | .non => true
  | .bl _ => true
  | .int _ => true
  | .str _ => true
  | .fn _ => true
  | .ty _ => true
  | .rg _ _ _ => true
  | .tpw xs => lfL xs
def lfL : List Va → Bool
  | [] => true
  | x :: xs => lf x && lfL xs
end
mutual
def shf (k : Nat) : Va → Va
  | .tup xs => .tup (shfL k xs)
  | .ros xs => .ros (shfL k xs)
  | .loc n => .loc (k + n)
  | .non => .non
  | .bl b => .bl b
  | .int i => .int i
  | .str s => .str s
  | .fn x => .fn x
  | .ty x => .ty x
  | .rg i j c => .rg i j c
  | .tpw xs => .tpw (shfL k xs)
def shfL (k : Nat) : List Va → List Va
  | [] => []
  | x :: xs => shf k x :: shfL k xs
end
def shfK (k : Nat) : List (Va × Va) → List (Va × Va)
  | [] => []
  | (a, x) :: r => (a, shf k x) :: shfK k r
def shfO (k : Nat) : Ob → Ob
  | .lst xs => .lst (shfL k xs)
  | .dct kvs => .dct (shfK k kvs)
section
variable {C : Ct} {ρ ρ' : List Addr} {H : Hp}
mutual
theorem Rp.lf_ : ∀ {x : Va} {v : V}, Rp C ρ H x v → lf x = true → Rp C ρ' H x v
  | _, _, .non, _ => .non
  | _, _, .bl b, _ => .bl b
  | _, _, .int i, _ => .int i
  | _, _, .str s, _ => .str s
  | _, _, .tup h r, e => .tup h (RpL.lf_ r (by simpa [lf] using e))
  | _, _, .ros h r, e => .ros h (RpL.lf_ r (by simpa [lf] using e))
  | _, _, .loc _, e => by simp [lf] at e
  | _, _, .fn h, _ => .fn h
  | _, _, .ty n, _ => .ty n
  | _, _, .rg h, _ => .rg h
  | _, _, .tpw h r, e => .tpw h (RpL.lf_ r (by simpa [lf] using e))
theorem RpL.lf_ : ∀ {x : List Va} {v : List V}, RpL C ρ H x v → lfL x = true → RpL C ρ' H x v
  | _, _, .nil, _ => .nil
  | _, _, .cons h r, e => .cons (Rp.lf_ h (by simp only [lfL, Bool.and_eq_true] at e; exact e.1)) (RpL.lf_ r (by simp only [lfL, Bool.and_eq_true] at e; exact e.2))
end
mutual
theorem Rp.shf_ : ∀ {x : Va} {v : V}, Rp C ρ' H x v → Rp C (ρ ++ ρ') H (shf ρ.length x) v
  | _, _, .non => by simp only [shf]; exact .non
  | _, _, .bl b => by simp only [shf]; exact .bl b
  | _, _, .int i => by simp only [shf]; exact .int i
  | _, _, .str s => by simp only [shf]; exact .str s
  | _, _, .tup h r => by simp only [shf]; exact .tup h (RpL.shf_ r)
  | _, _, .ros h r => by simp only [shf]; exact .ros h (RpL.shf_ r)
  | _, _, .loc h => by simp only [shf]; exact .loc (by rw [List.getElem?_append_right (Nat.le_add_right _ _), Nat.add_sub_cancel_left]; exact h)
  | _, _, .fn h => by simp only [shf]; exact .fn h
  | _, _, .ty n => by simp only [shf]; exact .ty n
  | _, _, .rg h => by simp only [shf]; exact .rg h
  | _, _, .tpw h r => by simp only [shf]; exact .tpw h (RpL.shf_ r)
theorem RpL.shf_ : ∀ {x : List Va} {v : List V}, RpL C ρ' H x v → RpL C (ρ ++ ρ') H (shfL ρ.length x) v
  | _, _, .nil => by simp only [shfL]; exact .nil
  | _, _, .cons h r => by simp only [shfL]; exact .cons (Rp.shf_ h) (RpL.shf_ r)
end
end
section
variable {C : Ct} {ρ ρ' : List Addr} {H : Hp}
theorem RpK.shf_ : ∀ {xs : List (Va × Va)} {vs : List (Key × V)}, RpK C ρ' H xs vs → RpK C (ρ ++ ρ') H (shfK ρ.length xs) vs
  | _, _, .nil => by simp only [shfK]; exact .nil
  | _, _, .cons e r rs => by simp only [shfK]; exact .cons e (Rp.shf_ r) (RpK.shf_ rs)
end
/-- the answer of a callee that ran by itself, over the heap h -/
def graft (h : Hs) : Rs Va → Rs Va
  | .ok x h' => if lf x = true then .ok x h else match x with
    | .loc m => match h'[m]? with
      | some (.lst ys) => if lfL ys = true then .ok (.loc h.length) (h ++ [.lst ys]) else .ok (.loc (h.length + m)) (h ++ h'.map (shfO h.length))
      | some (.dct _) => .ok (.loc (h.length + m)) (h ++ h'.map (shfO h.length))
      | none => .bad
    | x => .ok (shf h.length x) (h ++ h'.map (shfO h.length))
  | .ex x h' => if lfL (x.fs.map (·.2)) = true then .ex x h else .bad
  | .bad => .bad
def pureF (F : Fn) : Fn := fun xs h => if lfL xs = true then graft h (F xs []) else .bad
section
variable {C : Ct} {ρ ρ' : List Addr} {H H' : Hp} {h h' : Hs}
theorem Ext.weak (e : Ext C [] H ρ' H') : Ext C ρ H ρ H' := ⟨fun _ _ q => q, e.tup, e.frz, fun _ _ q => .inl q, fun a o q _ => e.frm a o q (fun n z => by simp at z), e.liv⟩
theorem HR.stay_ (hr : HR C ρ h H) (e : Ext C [] H ρ' H') : HR C ρ h H' := by
  refine ⟨hr.len, hr.nd, fun n o a hn ha => ?_⟩
  have q := hr.ob n o a hn ha
  revert q
  cases o with
  | lst xs => rintro ⟨vs, e1, e2⟩; exact ⟨vs, e.frm a _ e1 (fun n z => by simp at z), e2.mono (e.weak)⟩
  | dct k => rintro ⟨vs, e1, e2⟩; exact ⟨vs, e.frm a _ e1 (fun n z => by simp at z), e2.mono (e.weak)⟩
theorem HR.join (hr : HR C ρ h H) (e : Ext C [] H ρ' H') (hr' : HR C ρ' h' H') : Ext C ρ H (ρ ++ ρ') H' ∧ HR C (ρ ++ ρ') (h ++ h'.map (shfO h.length)) H' := by
  have hs := hr.stay_ e
  have x0 : Ex0 C ρ H' (ρ ++ ρ') H' := ⟨fun n a q => by rw [List.getElem?_append_left (List.getElem?_eq_some_iff.mp q).1]; exact q, fun _ _ q => q, fun _ _ _ q => q⟩
  have fresh : ∀ (n : Nat) (a : Addr), ρ'[n]? = some a → H a = none := fun n a q => by
    rcases e.new n a q with z | z
    · simp at z
    · exact z
  have cs : ∀ (n : Nat) (a : Addr), (ρ ++ ρ')[n]? = some a → (n < ρ.length ∧ ρ[n]? = some a) ∨ (ρ.length ≤ n ∧ ρ'[n - ρ.length]? = some a) := fun n a q => by
    by_cases hl : n < ρ.length
    · rw [List.getElem?_append_left hl] at q; exact .inl ⟨hl, q⟩
    · rw [List.getElem?_append_right (by omega)] at q; exact .inr ⟨by omega, q⟩
  refine ⟨⟨fun n a q => x0.pre n a q, e.tup, e.frz, fun n a q => ?_, fun a o q _ => e.frm a o q (fun n z => by simp at z), e.liv⟩, ⟨by simp [hr.len, hr'.len], fun i j a hi hj => ?_, fun n o a ho ha => ?_⟩⟩
  · rcases cs n a q with ⟨_, q⟩ | ⟨_, q⟩
    · exact .inl q
    · exact .inr (fresh _ a q)
  · rcases cs i a hi with ⟨l1, q1⟩ | ⟨l1, q1⟩ <;> rcases cs j a hj with ⟨l2, q2⟩ | ⟨l2, q2⟩
    · exact hr.nd i j a q1 q2
    · obtain ⟨o, ho⟩ := hr.sm_ q1
      rw [fresh _ a q2] at ho; cases ho
    · obtain ⟨o, ho⟩ := hr.sm_ q2
      rw [fresh _ a q1] at ho; cases ho
    · have := hr'.nd _ _ a q1 q2
      omega
  · rcases cs n a ha with ⟨l, q⟩ | ⟨l, q⟩
    · rw [List.getElem?_append_left (by rw [← hr.len]; exact l)] at ho
      have z := hs.ob n o a ho q
      revert z
      cases o with
      | lst ys => rintro ⟨vs, e1, e2⟩; exact ⟨vs, e1, e2.keep x0⟩
      | dct k => rintro ⟨vs, e1, e2⟩; exact ⟨vs, e1, e2.keep x0⟩
    · rw [List.getElem?_append_right (by rw [← hr.len]; exact l), List.getElem?_map, ← hr.len] at ho
      cases z : h'[n - ρ.length]? with
      | none => rw [z] at ho; cases ho
      | some o' =>
        rw [z] at ho
        cases ho
        have w := hr'.ob _ o' a z q
        revert w
        cases o' with
        | lst ys => rintro ⟨vs, e1, e2⟩; exact ⟨vs, e1, by exact e2.shf_⟩
        | dct k => rintro ⟨vs, e1, e2⟩; exact ⟨vs, e1, by exact e2.shf_⟩
theorem graft_of {F : Fn} {xs : List Va} {W : XK} {Q : VK} (hr : HR C ρ h H) (p : Po C (Rp C) W Q ρ H (graft h (F xs []))) : Po C (Rp C) W Q [] H (F xs []) := by
  cases q : F xs [] with
  | ok x h' =>
    rw [q] at p
    intro ρ' H' v e hr' rv
    have p : Po C (Rp C) W Q ρ H (if lf x = true then .ok x h else _) := p
    split at p
    · rename_i hl
      exact p ρ H' v e.weak (hr.stay_ e) (rv.lf_ hl)
    · cases x with
      | loc m =>
        have p : Po C (Rp C) W Q ρ H (match h'[m]? with | some (.lst ys) => if lfL ys = true then .ok (.loc h.length) (h ++ [.lst ys]) else .ok (.loc (h.length + m)) (h ++ h'.map (shfO h.length)) | some (.dct _) => .ok (.loc (h.length + m)) (h ++ h'.map (shfO h.length)) | none => .bad) := p
        split at p
        · rename_i ys hm
          split at p
          · rename_i hl
            obtain ⟨a, vs, rfl, ha, hv, rl⟩ := hr'.ls_ hm rv
            have h0 : H a = none := by
              rcases e.new m a ha with z | z
              · simp at z
              · exact z
            have nn : ∀ n : Nat, ρ[n]? ≠ some a := fun n z => by
              obtain ⟨o, ho⟩ := hr.sm_ z
              rw [h0] at ho; cases ho
            obtain ⟨a1, a2, a3⟩ := (hr.stay_ e).adopt (e.weak (ρ := ρ)) h0 hv nn (rl.lf_ hl)
            exact p _ _ _ a1 a2 a3
          · obtain ⟨j1, j2⟩ := hr.join e hr'
            have := rv.shf_ (ρ := ρ)
            simp only [shf] at this
            rw [hr.len] at this
            exact p _ _ _ j1 j2 this
        · obtain ⟨j1, j2⟩ := hr.join e hr'
          have := rv.shf_ (ρ := ρ)
          simp only [shf] at this
          rw [hr.len] at this
          exact p _ _ _ j1 j2 this
        · exact p.elim
      | tup ys =>
        obtain ⟨j1, j2⟩ := hr.join e hr'
        have := rv.shf_ (ρ := ρ)
        rw [hr.len] at this
        exact p _ _ _ j1 j2 this
      | ros ys =>
        obtain ⟨j1, j2⟩ := hr.join e hr'
        have := rv.shf_ (ρ := ρ)
        rw [hr.len] at this
        exact p _ _ _ j1 j2 this
      | tpw ys =>
        obtain ⟨j1, j2⟩ := hr.join e hr'
        have := rv.shf_ (ρ := ρ)
        rw [hr.len] at this
        exact p _ _ _ j1 j2 this
      | _ => rename_i hl; exact absurd (by simp [lf]) hl
  | ex x h' =>
    rw [q] at p
    intro ρ' H' cls d e hr' xr
    have p : Po C (Rp C) W Q ρ H (if lfL (x.fs.map (·.2)) = true then .ex x h else .bad) := p
    split at p
    · rename_i hl
      refine p ρ H' cls d e.weak (hr.stay_ e) ?_
      obtain ⟨Cl, m1, m2, dd, vs, m3, m4, m5, m6⟩ := xr
      exact ⟨Cl, m1, m2, dd, vs, m3, m4, m5, m6.lf_ hl⟩
    · exact p.elim
  | bad => rw [q] at p; exact p
end
theorem DefOk.pure {P : Program} {w : World} {C : Ct} {base : Heap} {k : Nat} {f : Addr} {fd : FuncData} {ps : List Str} {F : Fn} (d : DefOk P w C base k f fd ps F) : DefOk P w C base k f fd ps (pureF F) := ⟨fun A outer s H args us vs Q E hr hg e0 hb r ⟨hl, ρ, h, xs, rx, hh, p⟩ => by
  unfold pureF at p
  split at p
  · rename_i hx
    exact d.run A outer s H args us vs Q E hr hg e0 hb r ⟨hl, [], [], xs, rx.lf_ hx, ⟨rfl, fun i j a h1 => by simp at h1, fun n o a h1 => by simp at h1⟩, graft_of hh p⟩
  · exact p.elim⟩
/-- another run with the same answers -/
theorem DefOk.to {P : Program} {w : World} {C : Ct} {base : Heap} {k : Nat} {f : Addr} {fd : FuncData} {ps : List Str} {F G : Fn} (d : DefOk P w C base k f fd ps F) (e : ∀ xs h, xs.length = ps.length → G xs h ≠ .bad → F xs h = G xs h) : DefOk P w C base k f fd ps G := ⟨fun A outer s H args us vs Q E hr hg e0 hb r ⟨hl, ρ, h, xs, rx, hh, p⟩ => by
  refine d.run A outer s H args us vs Q E hr hg e0 hb r ⟨hl, ρ, h, xs, rx, hh, ?_⟩
  by_cases hG : G xs h = .bad
  · rw [hG] at p; exact p.elim
  · rw [e xs h (by rw [rx.length, hl]) hG]; exact p⟩
theorem Gfn.pure {P : Program} {w : World} {C : Ct} {base : Heap} {k : Nat} {x : Str} {st : Stmt} {ps : List Str} {F : Fn} (g : Gfn P w C base k x st ps F) : Gfn P w C base k x st ps (pureF F) := by
  obtain ⟨f, fd, h1, h2, h3, h4⟩ := g.ex
  exact ⟨f, fd, h1, h2, h3.pure, h4⟩
theorem Gfn.to {P : Program} {w : World} {C : Ct} {base : Heap} {k : Nat} {x : Str} {st : Stmt} {ps : List Str} {F G : Fn} (g : Gfn P w C base k x st ps F) (e : ∀ xs h, xs.length = ps.length → G xs h ≠ .bad → F xs h = G xs h) : Gfn P w C base k x st ps G := by
  obtain ⟨f, fd, h1, h2, h3, h4⟩ := g.ex
  exact ⟨f, fd, h1, h2, h3.to e, h4⟩
end Fw

set_option Elab.async false
set_option linter.all false
set_option maxRecDepth 100000
set_option maxHeartbeats 2000000
set_option autoImplicit false
namespace Fw
open PySem PySem.Spec L2
open PyProof.Rows hiding St

/-! ### math.comb -/
namespace Cb
open PySem.Calls PySem.W
abbrev val (a b : Int) : Int := Builtin.Math.fallingProduct a (min b (a - b)).toNat / Builtin.Math.fallingProduct (min b (a - b)) (min b (a - b)).toNat
end Cb
end Fw

set_option Elab.async false
set_option linter.all false
set_option maxRecDepth 100000
set_option maxHeartbeats 2000000
set_option autoImplicit false
namespace Fw
open PySem PySem.Spec L2
open PyProof.Rows hiding St

def asI : Va → Option Int
  | .int i => some i
  | _ => none
def asS : Va → Option (List Nat)
  | .str x => some x
  | _ => none
section
variable {C : Ct} {ρ : List Addr} {H : Hp} {h : Hs}
theorem ints_of : ∀ {xs : List Va} {vs : List V} {ns : List Int}, RpL C ρ H xs vs → mapO asI xs = some ns → vs = ns.map V.int
  | _, _, _, .nil, e => by cases e; rfl
  | _, _, _, .cons (x := x) (xs := xs) r rs, e => by
    unfold mapO at e
    split at e
    · rename_i y ys h1 h2
      cases e
      cases x <;> first | (cases h1; cases r; rw [ints_of rs h2]; rfl) | cases h1
    · cases e
theorem bools_of : ∀ {xs : List Va} {vs : List V} {ns : List Bool}, RpL C ρ H xs vs → mapO asB xs = some ns → vs = ns.map V.bl
  | _, _, _, .nil, e => by cases e; rfl
  | _, _, _, .cons (x := x) (xs := xs) r rs, e => by
    unfold mapO at e
    split at e
    · rename_i y ys h1 h2
      cases e
      cases x <;> first | (cases h1; cases r; rw [bools_of rs h2]; rfl) | cases h1
    · cases e
theorem strs_of : ∀ {xs : List Va} {vs : List V} {ns : List (List Nat)}, RpL C ρ H xs vs → mapO asS xs = some ns → vs = (ns.map fun x => (⟨x.toArray⟩ : Str)).map V.str
  | _, _, _, .nil, e => by cases e; rfl
  | _, _, _, .cons (x := x) (xs := xs) r rs, e => by
    unfold mapO at e
    split at e
    · rename_i y ys h1 h2
      cases e
      cases x <;> first | (cases h1; cases r; rw [strs_of rs h2]; rfl) | cases h1
    · cases e
/-- a list, however it lies -/
def lsA : Va → Hs → Option (List Va)
  | .loc n, h => match h[n]? with
    | some (.lst xs) => some xs
    | _ => none
  | .ros xs, _ => some xs
  | _, _ => none
theorem lsA_of (hr : HR C ρ h H) {x : Va} {v : V} (r : Rp C ρ H x v) {xs : List Va} (e : lsA x h = some xs) : ∃ a vs, v = .ref a ∧ SqL C.K H a vs ∧ RpL C ρ H xs vs := by
  cases x with
  | loc n =>
    have e : (match h[n]? with | some (.lst xs) => some xs | _ => none) = some xs := e
    split at e
    · rename_i ys hn
      cases e
      obtain ⟨a, vs, rfl, ha, hl, rl⟩ := hr.ls_ hn r
      exact ⟨a, vs, rfl, SqL.of hl, rl⟩
    · cases e
  | ros ys =>
    cases e
    cases r with
    | ros hq rl => exact ⟨_, _, rfl, hq.sq, rl⟩
  | _ => cases e
end
/-! ### built-ins by name -/
@[simp] def kLen : List Va → Hs → Rs Va
  | [.str x] => fun h => if x.length ≤ 16777216 then .ok (.int (x.length : Nat)) h else .bad
  | [.tup xs] => okI (xs.length : Nat)
  | [x] => fun h => match lsA x h with
    | some xs => .ok (.int (xs.length : Nat)) h
    | none => .bad
  | _ => fun _ => .bad
@[simp] def kInt : List Va → Hs → Rs Va
  | [.int i] => okI i
  | [.bl b] => okI (if b then 1 else 0)
  | _ => fun _ => .bad
@[simp] def kAbs : List Va → Hs → Rs Va
  | [.int i] => okI (if i < 0 then -i else i)
  | _ => fun _ => .bad
def kDvm : List Va → Hs → Rs Va
  | [.int i, .int j] => fun h => if 0 < j ∧ j < 1073741824 then .ok (.tup [.int (i / j), .int (i % j)]) h else .bad
  | _ => fun _ => .bad
def kMax : List Va → Hs → Rs Va
  | [.int i, .int j] => okI (if j > i then j else i)
  | _ => fun _ => .bad
def kMin : List Va → Hs → Rs Va
  | [.int i, .int j] => okI (if j < i then j else i)
  | _ => fun _ => .bad
def k1L {α : Type} (f : Va → Option α) (g : List α → Rs Va → Rs Va) : List Va → Hs → Rs Va := fun xs h => match xs with
  | [x] => match (lsA x h).bind (mapO f) with
    | some ns => g ns (.ok .non h)
    | none => .bad
  | _ => .bad
def on1 {α : Type} (f : Va → Option α) (g : List α → Va) : List Va → Hs → Rs Va := fun xs h => match xs with
  | [x] => match (lsA x h).bind (mapO f) with
    | some ns => .ok (g ns) h
    | none => .bad
  | _ => .bad
def kAll : List Va → Hs → Rs Va := on1 asB fun bs => .bl (bs.all id)
def kTpl : List Va → Hs → Rs Va
  | [.tup xs] => fun h => .ok (.tup xs) h
  | [x] => fun h => match lsA x h with
    | some xs => .ok (.tup xs) h
    | none => .bad
  | _ => fun _ => .bad
@[simp] def kTyp : List Va → Hs → Rs Va
  | [.non] => fun h => .ok (.ty "NoneType") h
  | [.bl _] => fun h => .ok (.ty "bool") h
  | [.int _] => fun h => .ok (.ty "int") h
  | [.str _] => fun h => .ok (.ty "str") h
  | [.tup _] => fun h => .ok (.ty "tuple") h
  | [x] => fun h => match lsA x h with
    | some _ => .ok (.ty "list") h
    | none => .bad
  | _ => fun _ => .bad
section
variable {X : Cx}
theorem rpInts {C : Ct} {ρ : List Addr} {H : Hp} : ∀ ns : List Int, RpL C ρ H (ns.map Va.int) (ns.map V.int)
  | [] => .nil
  | n :: ns => .cons (.int n) (rpInts ns)
theorem one_arg {C : Ct} {ρ : List Addr} {H : Hp} {xs : List Va} {vs : List V} (r : RpL C ρ H xs vs) {x : Va} (e : xs = [x]) : ∃ v, vs = [v] ∧ Rp C ρ H x v := by
  subst e
  cases r with
  | cons r1 r2 => cases r2; exact ⟨_, rfl, r1⟩
theorem on1_of {α : Type} {f : Va → Option α} {g : List α → Va} {xs : List Va} {h : Hs} {W : XK} {Q : VK} {C : Ct} {ρ : List Addr} {H : Hp} {vs : List V} (hr : HR C ρ h H) (r : RpL C ρ H xs vs) (p : Po C (Rp C) W Q ρ H (on1 f g xs h)) : ∃ a ys ns us, vs = [.ref a] ∧ SqL C.K H a us ∧ RpL C ρ H ys us ∧ mapO f ys = some ns ∧ Po C (Rp C) W Q ρ H (.ok (g ns) h) := by
  unfold on1 at p
  split at p
  · rename_i x
    obtain ⟨v, rfl, rv⟩ := one_arg r rfl
    cases e : lsA x h with
    | none => rw [e] at p; exact p.elim
    | some ys =>
      obtain ⟨a, us, rfl, hq, rl⟩ := lsA_of hr rv e
      rw [e] at p
      cases e2 : mapO f ys with
      | none => simp only [Option.bind_some, e2] at p; exact p.elim
      | some ns =>
        simp only [Option.bind_some, e2] at p
        exact ⟨a, ys, ns, us, rfl, hq, rl, e2, p⟩
  · exact p.elim
theorem cs_len : CaK X (.builtin "len") kLen := ⟨_, CallR.or call_len_str call_len_seq, by
  intro ρ H h xs vs W Q hr r p
  unfold kLen at p
  split at p
  · obtain ⟨v, rfl, rv⟩ := one_arg r rfl
    cases rv
    split at p
    · rename_i hl
      exact .inl ⟨_, rfl, by rw [str_len, line_eq]; exact hl, by rw [str_len]; exact Po_ok p hr (.int _)⟩
    · exact p.elim
  · obtain ⟨v, rfl, rv⟩ := one_arg r rfl
    cases rv with
    | tup hq rl => exact .inr ⟨_, _, rfl, .inr hq.sq, by rw [← rl.length]; exact Po_ok p hr (.int _)⟩
  · obtain ⟨v, rfl, rv⟩ := one_arg r rfl
    dsimp only at p
    split at p
    · rename_i ys e
      obtain ⟨a, us, rfl, hq, rl⟩ := lsA_of hr rv e
      exact .inr ⟨_, _, rfl, .inl hq, by rw [← rl.length]; exact Po_ok p hr (.int _)⟩
    · exact p.elim
  · exact p.elim⟩
theorem cs_int : CaK X (.type "int") kInt := ⟨_, call_int1, by
  intro ρ H h xs vs W Q hr r p
  unfold kInt at p
  split at p
  · obtain ⟨v, rfl, rv⟩ := one_arg r rfl
    cases rv
    exact .inl ⟨_, rfl, Po_ok p hr (.int _)⟩
  · obtain ⟨v, rfl, rv⟩ := one_arg r rfl
    cases rv
    exact .inr ⟨_, rfl, Po_ok p hr (.int _)⟩
  · exact p.elim⟩
theorem cs_abs : CaK X (.builtin "abs") kAbs := ⟨_, call_abs, by
  intro ρ H h xs vs W Q hr r p
  unfold kAbs at p
  split at p
  · obtain ⟨v, rfl, rv⟩ := one_arg r rfl
    cases rv
    exact ⟨_, rfl, Po_ok p hr (.int _)⟩
  · exact p.elim⟩
theorem two_args {C : Ct} {ρ : List Addr} {H : Hp} {i j : Int} {vs : List V} (r : RpL C ρ H [.int i, .int j] vs) : vs = [.int i, .int j] := by
  cases r with
  | cons r1 r2 => cases r1; cases r2 with | cons r2 r3 => cases r2; cases r3; rfl
theorem cs_dvm : CaK X (.builtin "divmod") kDvm := ⟨_, call_dvmD, by
  intro ρ H h xs vs W Q hr r p
  unfold kDvm at p
  split at p
  · have e := two_args r
    subst e
    split at p
    · rename_i c
      exact ⟨_, _, rfl, c, Po_tup hr (.cons (.int _) (.cons (.int _) .nil)) p⟩
    · exact p.elim
  · exact p.elim⟩
theorem cs_max (hc : X.calm = true) : CaK X (.builtin "max") kMax := ⟨_, call_max2 hc, by
  intro ρ H h xs vs W Q hr r p
  unfold kMax at p
  split at p
  · have e := two_args r
    subst e
    exact ⟨_, _, rfl, Po_ok p hr (.int _)⟩
  · exact p.elim⟩
theorem cs_min (hc : X.calm = true) : CaK X (.builtin "min") kMin := ⟨_, call_min2 hc, by
  intro ρ H h xs vs W Q hr r p
  unfold kMin at p
  split at p
  · have e := two_args r
    subst e
    exact ⟨_, _, rfl, Po_ok p hr (.int _)⟩
  · exact p.elim⟩
theorem cs_all (hc : X.calm = true) : CaK X (.builtin "all") kAll := ⟨_, cr_all hc, by
  intro ρ H h xs vs W Q hr r p
  obtain ⟨a, ys, ns, us, rfl, hq, rl, e, p⟩ := on1_of hr r p
  have := bools_of rl e
  subst this
  exact ⟨a, ns, rfl, hq, Po_ok p hr (.bl _)⟩⟩
theorem cs_tpl : CaK X (.type "tuple") kTpl := ⟨_, call_tplD, by
  intro ρ H h xs vs W Q hr r p
  unfold kTpl at p
  split at p
  · obtain ⟨v, rfl, rv⟩ := one_arg r rfl
    cases rv with
    | tup hq rl => exact ⟨_, _, rfl, .inr ⟨hq.sq, Po_ok p hr (.tup hq rl)⟩⟩
  · obtain ⟨v, rfl, rv⟩ := one_arg r rfl
    dsimp only at p
    split at p
    · rename_i ys e
      obtain ⟨a, us, rfl, hq, rl⟩ := lsA_of hr rv e
      exact ⟨_, _, rfl, .inl ⟨hq, Po_tup hr rl p⟩⟩
    · exact p.elim
  · exact p.elim⟩
theorem cs_typ : CaK X (.type "type") kTyp := ⟨_, call_type1, by
  intro ρ H h xs vs W Q hr r p
  unfold kTyp at p
  split at p <;> first
    | exact p.elim
    | (obtain ⟨v, rfl, rv⟩ := one_arg r rfl
       cases rv
       first
         | exact ⟨_, _, rfl, .non, Po_ok p hr (.ty _)⟩
         | exact ⟨_, _, rfl, .bl _, Po_ok p hr (.ty _)⟩
         | exact ⟨_, _, rfl, .int _, Po_ok p hr (.ty _)⟩
         | exact ⟨_, _, rfl, .str _, Po_ok p hr (.ty _)⟩
         | exact ⟨_, _, rfl, .tup (SqD.sq (by assumption)), Po_ok p hr (.ty _)⟩)
    | (obtain ⟨v, rfl, rv⟩ := one_arg r rfl
       dsimp only at p
       split at p
       · rename_i ys e
         obtain ⟨a, us, rfl, hq, rl⟩ := lsA_of hr rv e
         exact ⟨_, _, rfl, .lst hq, Po_ok p hr (.ty _)⟩
       · exact p.elim)⟩
end
/-! ### the calls -/
def sBlt (k : List Va → Hs → Rs Va) (f : Sm (List Va)) : Sx := bnd f fun xs => vl (k xs)
section
variable {X : Cx} {W : WX} {x : Str} {id T : String} {k : List Va → Hs → Rs Va} {fa : Sm (List Va)} {p pos : Pos} {e : Expr} {es : List Expr}
theorem se_blt (hk : CaK X (.builtin id) k) (hg : Gl X x) (hm : X.mg x = none) (ha : PA X (e :: es) (tAr (ctOf X) W fa)) (hv : bootBuiltins x = some (.builtin id) := by decide +kernel) (hn : x ≠ "__name__" := by decide) (hdb : (x == ("__debug__" : Str)) = false := by decide)
    (he : starEach (e :: es) X.env = (false, eval e X.env) :: starEach es X.env := by rfl) (hpl : (backTo pos (starEach es X.env)).any (·.1) = false := by rfl) : PE X (.Call (.Name x p) (e :: es) [] pos) (tE (ctOf X) W (sBlt k fa)) := by
  obtain ⟨r, h1, h2⟩ := hk
  exact pe_of (pe_callB h1 hg hm hv ha hn hdb he hpl) (tC_call h2)
theorem se_bty (hk : CaK X (.type T) k) (hg : Gl X x) (hm : X.mg x = none) (ha : PA X (e :: es) (tAr (ctOf X) W fa)) (hv : bootBuiltins x = some (.type T) := by decide +kernel) (hn : x ≠ "__name__" := by decide) (hdb : (x == ("__debug__" : Str)) = false := by decide)
    (he : starEach (e :: es) X.env = (false, eval e X.env) :: starEach es X.env := by rfl) (hpl : (backTo pos (starEach es X.env)).any (·.1) = false := by rfl) : PE X (.Call (.Name x p) (e :: es) [] pos) (tE (ctOf X) W (sBlt k fa)) := by
  obtain ⟨r, h1, h2⟩ := hk
  exact pe_of (pe_callTy h1 hg hm hv ha hn hdb he hpl) (tC_call h2)
end
end Fw

set_option Elab.async false
set_option linter.all false
set_option maxRecDepth 100000
set_option maxHeartbeats 2000000
set_option autoImplicit false
namespace Fw
open PySem PySem.Spec L2
open PyProof.Rows hiding St

/-! ### methods of built-in types -/
def tyA (T : String) : Va → Hs → Bool
  | .str _, _ => T == "str"
  | .loc n, h => T == "list" && (match h[n]? with
    | some (.lst _) => true
    | _ => false)
  | .ros _, _ => T == "list"
  | _, _ => false
def sMth (T : String) (k : Va → List Va → Hs → Rs Va) (o : Sx) (f : Sm (List Va)) : Sx := bnd o fun x e h => if tyA T x h = true then bnd f (fun xs => vl (k x xs)) e h else .bad
def MtK (X : Cx) (id : String) (k : Va → List Va → Hs → Rs Va) : Prop := ∃ r, MtR X id r ∧ ∀ (ρ : List Addr) (H : Hp) (h : Hs) (x : Va) (xs : List Va) (v : V) (vs : List V) (W : XK) (Q : VK), HR (ctOf X) ρ h H → Rp (ctOf X) ρ H x v → RpL (ctOf X) ρ H xs vs → Po (ctOf X) (Rp (ctOf X)) W Q ρ H (k x xs h) → r v vs H Q
theorem tyA_of {C : Ct} {ρ : List Addr} {H : Hp} {h : Hs} (hr : HR C ρ h H) {x : Va} {v : V} (r : Rp C ρ H x v) {T : String} (e : tyA T x h = true) : tyV C.K T v H := by
  cases r with
  | str s => exact eq_of_beq e
  | loc hq =>
    rename_i n a
    have e : (T == "list" && (match h[n]? with | some (.lst _) => true | _ => false)) = true := e
    rw [Bool.and_eq_true] at e
    refine .inl ⟨eq_of_beq e.1, ?_⟩
    have e2 := e.2
    split at e2
    · rename_i xs hn
      obtain ⟨vs, e3, _⟩ := hr.ob n _ _ hn hq
      exact ⟨vs, SqL.of e3⟩
    · cases e2
  | ros hq rl => exact .inl ⟨eq_of_beq e, _, hq.sq⟩
  | _ => cases e
section
variable {X : Cx} {W : WX} {o e : Expr} {es : List Expr} {fo : Sx} {fa : Sm (List Va)} {name : Str} {apos cpos : Pos} {T id : String} {k : Va → List Va → Hs → Rs Va}
theorem se_mth (pa : PlainAttrs T) (slot : Slot T name id) (hty : typeOf (.builtin id) = pure (.type "method_descriptor")) (hm : MtK X id k) (ho : PE X o (tE (ctOf X) W fo)) (ha : PA X (e :: es) (tAr (ctOf X) W fa))
    (hbase : attributeBase o name X.env (eval o X.env) = eval o X.env := by rfl)
    (hfew : ((backTo cpos (starEach (e :: es) X.env)).all (fun x => !x.1) && (backToKw cpos (keywordEach [] X.env)).all (fun x => x.1.isSome) && decide ((e :: es).length + ([] : List Keyword).length + (if ([] : List Keyword).isEmpty then 0 else 1) < 30)) = true := by rfl)
    (hline : (apos.endLine == cpos.line) = true := by rfl) (hs : starEach (e :: es) X.env = (false, eval e X.env) :: starEach es X.env := by rfl) (hpl : (backTo cpos (starEach es X.env)).any (·.1) = false := by rfl) :
    PE X (.Call (.Attribute o name apos) (e :: es) [] cpos) (tE (ctOf X) W (sMth T k fo fa)) := by
  obtain ⟨r, h1, h2⟩ := hm
  exact pe_of (pe_bm pa slot hty h1 ho ha hbase hfew hline hs hpl) fun σ H Q h => tX_bnd h fun ρ H1 e1 hh x v hs hr rv p => by
    split at p
    · rename_i ht
      exact ⟨tyA_of hr rv ht, Po_bnd (k := fun xs => vl (k x xs)) hs hr p fun ρ2 H2 h3 xs vs e2 hs2 hr2 rvs p2 => h2 ρ2 H2 h3 x xs v vs _ Q hr2 (rv.mono e2) rvs p2⟩
    · exact p.elim
end
def kApp : Va → List Va → Hs → Rs Va
  | .loc n, [y] => fun h => match h[n]? with
    | some (.lst xs) => if xs.length < 16777216 then .ok .non (h.set n (.lst (xs ++ [y]))) else .bad
    | _ => .bad
  | _, _ => fun _ => .bad
def joinL (a : List Nat) : List (List Nat) → List Nat
  | [] => []
  | [x] => x
  | x :: y :: r => x ++ a ++ joinL a (y :: r)
def kJoin : Va → List Va → Hs → Rs Va
  | .str a, [x] => fun h => match x with
    | .tup xs => match mapO asS xs with
      | some ys => if (ys.map (·.length)).sum + ys.length * a.length ≤ 16777216 then .ok (.str (joinL a ys)) h else .bad
      | none => .bad
    | x => match (lsA x h).bind (mapO asS) with
      | some ys => if (ys.map (·.length)).sum + ys.length * a.length ≤ 16777216 then .ok (.str (joinL a ys)) h else .bad
      | none => .bad
  | _, _ => fun _ => .bad
section
variable {X : Cx}
theorem ms_app : MtK X "list.append" kApp := ⟨rAppend, mt_append, by
  intro ρ H h x xs v vs W Q hr rv rs p
  unfold kApp at p
  split at p
  · rename_i n y
    obtain ⟨w, rfl, rw_⟩ := one_arg rs rfl
    split at p
    · rename_i ys hn
      obtain ⟨a, us, rfl, ha, hl, rl⟩ := hr.ls_ hn rv
      split at p
      · rename_i c
        obtain ⟨e1, e2⟩ := hr.write hn ha hl (rl.append (.cons rw_ .nil))
        exact ⟨a, us, w, rfl, rfl, hl, by rw [← rl.length, line_eq]; exact c, p ρ _ .non e1 e2 .non⟩
      · exact p.elim
    · exact p.elim
  · exact p.elim⟩
theorem glued_eq (a : List Nat) : ∀ ys : List (List Nat), Txt.join ⟨a.toArray⟩ (ys.map fun x => (⟨x.toArray⟩ : Str)) = ⟨(joinL a ys).toArray⟩ := by
  have go : ∀ (ys : List (List Nat)) (acc : List Nat), (ys.map fun x => (⟨x.toArray⟩ : Str)).foldl (fun acc p => acc ++ (⟨a.toArray⟩ : Str).cps ++ p.cps) acc.toArray = (acc ++ (ys.map fun x => a ++ x).flatten).toArray := by
    intro ys
    induction ys with
    | nil => intro acc; simp
    | cons y ys ih =>
      intro acc
      simp only [List.map_cons, List.foldl_cons, List.flatten_cons]
      have e : acc.toArray ++ a.toArray ++ y.toArray = (acc ++ (a ++ y)).toArray := by simp
      rw [e, ih]
      simp
  have jn : ∀ (ys : List (List Nat)) (x : List Nat), joinL a (x :: ys) = x ++ (ys.map fun x => a ++ x).flatten := by
    intro ys
    induction ys with
    | nil => intro x; simp [joinL]
    | cons y ys ih =>
      intro x
      simp only [joinL, ih, List.map_cons, List.flatten_cons, List.append_assoc]
  intro ys
  cases ys with
  | nil => rfl
  | cons y ys =>
    rw [jn]
    show (⟨((ys.map fun x => (⟨x.toArray⟩ : Str))).foldl (fun acc p => acc ++ (⟨a.toArray⟩ : Str).cps ++ p.cps) y.toArray⟩ : Str) = _
    rw [go]
theorem join_len (ys : List (List Nat)) : ((ys.map fun x => (⟨x.toArray⟩ : Str)).map (·.length)).sum = (ys.map (·.length)).sum := by
  rw [List.map_map]
  congr 1
theorem ms_join : MtK X "str.join" kJoin := ⟨_, mt_join, by
  intro ρ H h x xs v vs W Q hr rv rs p
  unfold kJoin at p
  split at p
  · rename_i a y
    obtain ⟨w, rfl, rw_⟩ := one_arg rs rfl
    cases rv
    have fin : ∀ (ys : List (List Nat)), (ys.map (·.length)).sum + ys.length * a.length ≤ 16777216 → Po (ctOf X) (Rp (ctOf X)) W Q ρ H (.ok (.str (joinL a ys)) h) →
        (((ys.map fun x => (⟨x.toArray⟩ : Str)).map (·.length)).sum + (ys.map fun x => (⟨x.toArray⟩ : Str)).length * (⟨a.toArray⟩ : Str).length ≤ 16777216 ∧ Q (.str (Txt.join ⟨a.toArray⟩ (ys.map fun x => (⟨x.toArray⟩ : Str)))) H) := fun ys hl p => by
      rw [join_len, List.length_map, str_len, glued_eq]
      exact ⟨hl, Po_ok p hr (.str _)⟩
    split at p
    · rename_i zs
      cases rw_ with
      | tup hq rl =>
      split at p
      · rename_i ys e
        split at p
        · rename_i c
          have e2 := strs_of rl e
          subst e2
          obtain ⟨f1, f2⟩ := fin ys c p
          exact ⟨_, _, _, rfl, rfl, .inr hq.sq, f1, f2⟩
        · exact p.elim
      · exact p.elim
    · cases e : lsA y h with
      | none => rw [e] at p; exact p.elim
      | some zs =>
        obtain ⟨b, us, rfl, hq, rl⟩ := lsA_of hr rw_ e
        rw [e] at p
        cases e2 : mapO asS zs with
        | none => simp only [Option.bind_some, e2] at p; exact p.elim
        | some ys =>
          simp only [Option.bind_some, e2] at p
          split at p
          · rename_i c
            have e3 := strs_of rl e2
            subst e3
            obtain ⟨f1, f2⟩ := fin ys c p
            exact ⟨_, _, _, rfl, rfl, .inl hq, f1, f2⟩
          · exact p.elim
  · exact p.elim⟩
end
/-! ### the end: the law's def, called with the script -/
section
variable {P : Program} {w : World} {K : PySem.W.Frag} {mg mb : Str → Option Value} {k : Nat} {fa a : Addr} {fd : FuncData} {x : Str} {F : Fn} {s : Shared} {us : List Value} {ns : List Int}
theorem law_run (KX : K.In s.heap) (hns : s.heap.Ns mainGlobals mg) (hb : s.heap.Ns builtinsNs mb) (hbb : ∀ x : Str, x ≠ "__name__" → mb x = bootBuiltins x) (hlim : s.heap.NoLimit) (hg : s.gens = #[])
    (ha : s.heap.get? a = some { cls := .type "list", data := .seq us.toArray }) (hi : IntsAre us ns) (hl : ns.length ≤ sizeLine) (hr : Room k callerA) (D : ∀ base : Heap, K.In base → base.Ns mainGlobals mg → DefOk P w ⟨K, mg⟩ base k fa fd [x] F)
    (hbind : ∀ (s : Shared) (u : Value), BindsTo s fd ⟨[u], []⟩ [(x, u)]) (hF : ∃ h', F [.ros (ns.map Va.int)] [] = .ok (.bl true) h') :
    codeAny (model P w) callerA (.call (.ref fa) ⟨[.ref a], []⟩) (fun r s' => r = .ok (.ret (.bool true)) ∧ OldK s.heap s'.heap ∧ s'.os = s.os ∧ AllBare s'.gens) s := by
  obtain ⟨hf, hF⟩ := hF
  have rl := vals_ints hi
  have ln := hi.length
  suffices all : ∀ H : Hp, Only H → RoL K H a (ns.map V.int) → HOk P w H s.heap → (∀ b u, H b = some u → b = a) → ((∃ u, H a = some u) → K.lookup a = none) → codeAny (model P w) callerA (.call (.ref fa) ⟨[.ref a], []⟩) (fun r s' => r = .ok (.ret (.bool true)) ∧ OldK s.heap s'.heap ∧ s'.os = s.os ∧ AllBare s'.gens) s by
    cases hk : K.lookup a with
    | some o =>
      have e := KX a o hk
      rw [ha] at e
      have e := Option.some.inj e
      subst e
      refine all (fun _ => none) (fun _ => Or.inl rfl) (Or.inr fun H' => Or.inr ⟨_, us.toArray, _, hk, rfl, rfl, rfl, ?_, ?_⟩) (fun b u z => by cases z) (fun b u z => by cases z) fun ⟨u, z⟩ => by cases z
      · rw [List.size_toArray, ln]; exact hl
      · simpa using rl
    | none =>
      let ob : Obj := { cls := .type "list", data := .seq us.toArray }
      let HH : Hp := fun b => if b = a then some (.frz ob (.lst (ns.map V.int))) else none
      have at_a : HH a = some (.frz ob (.lst (ns.map V.int))) := if_pos rfl
      have off : ∀ b, b ≠ a → HH b = none := fun b hb => if_neg hb
      refine all HH (fun b => ?_) (Or.inl ⟨ob, at_a⟩) (fun b u z => ?_) (fun b u z => ?_) fun _ => hk
      · by_cases e : b = a
        · subst e; exact Or.inr ⟨_, _, at_a⟩
        · exact Or.inl (off b e)
      · by_cases e : b = a
        · subst e
          rw [at_a] at z
          cases z
          exact ⟨ha, by rw [List.length_map]; exact hl, us, _, rl, ha⟩
        · rw [off b e] at z; cases z
      · by_cases e : b = a
        · exact e
        · rw [off b e] at z; cases z
  intro H hO hS hok hA hKa
  have keepB : ∀ {b : Addr} {o : Obj}, s.heap.get? b = some o → H b = none → (hidT s.heap H).get? b = some o := fun e n => hidT_get e n
  have dictN : ∀ {b : Addr} {o : Obj} {es : Array DictEntry} {ep : Nat}, s.heap.get? b = some o → o.data = .dict es ep → H b = none := by
    intro b o es ep e d
    cases q : H b with
    | none => rfl
    | some u =>
      have eb := hA b u q
      subst eb
      rw [ha] at e
      cases e
      exact absurd d (by intro z; cases z)
  have nsB : ∀ {b : Addr} {m : Str → Option Value}, s.heap.Ns b m → (hidT s.heap H).Ns b m := by
    rintro b m ⟨o, es, ep, e, d, r⟩
    exact ⟨o, es, ep, keepB e (dictN e d), d, r⟩
  have inB : K.In (hidT s.heap H) := by
    intro b o e
    refine keepB (KX b o e) ?_
    cases q : H b with
    | none => rfl
    | some u =>
      have eb := hA b u q
      subst eb
      rw [hKa ⟨u, q⟩] at e
      cases e
  have md : Mod K mg (hidT s.heap H) := by
    refine ⟨inB, nsB hns, ⟨mb, nsB hb, hbb⟩, ?_⟩
    obtain ⟨mc, z1, z2⟩ := hlim
    exact ⟨mc, nsB z1, z2⟩
  have e0 : Env0 P w K mg (hidT s.heap H) callerA [] s H := ⟨rfl, md, fun b o e => of_hidT e, Nat.le_of_eq (hidT_size _ _), trivial, fun b hb => (by cases hb), hok, .of_eq hg⟩
  have hsp : SpF ⟨K, mg⟩ F [x].length [.ref a] H (fun v _ => v = .bl true) (fun _ _ _ => False) := by
    refine ⟨rfl, [], [], [.ros (ns.map Va.int)], .cons (.ros hS (rpInts ns)) .nil, ⟨rfl, fun i j b z => by simp at z, fun n o b z => by simp at z⟩, ?_⟩
    rw [hF]
    intro ρ' H' v _ _ rv
    cases rv
    rfl
  refine codeAny_mono ((D _ inB (nsB hns)).run callerA [] s H ⟨[.ref a], []⟩ [.ref a] [.ref a] _ _ hr rfl e0 (hbind s (.ref a)) (.cons rfl .nil) hsp) fun r s' q => ?_
  cases r with
  | error e =>
    obtain ⟨_, _, _, _, _, _, _, _, _, _, _, _, z⟩ := q
    exact z.elim
  | ok fl => cases fl with
    | ret u =>
      obtain ⟨v, H', os, bare, un, hok', rv, qv⟩ := q
      have qv : v = .bl true := qv
      subst qv
      have rv : u = Value.bool true := rv
      subst rv
      refine ⟨rfl, OldK.of_keep fun b o e => ?_, os, bare⟩
      cases z : H b with
      | none => exact un.keep b o e z (by intro y; cases y) (by simp)
      | some u =>
        rcases hO b with y | ⟨ob, xs, y⟩
        · rw [z] at y; cases y
        · obtain ⟨e1, _⟩ := hok b _ y
          obtain ⟨e2, _⟩ := hok' b _ (un.frzs b ob _ y)
          rw [e] at e1
          cases e1
          exact e2
    | _ => exact False.elim q
end
/-- the goal that the head leaves, from the law's def -/
theorem law_end {l : PySem.W.OpenLaw} {n k : Nat} {q : Program} {loose : List Str} {XP : (Str → Option Value) → Heap → Prop} {YP : World → Heap → Prop} {d : DefRec} {K : Params → PySem.W.Frag} {x : Str} {F : Fn}
    (hn : l.most = some n) (hn2 : n ≤ sizeLine) (hdf : d.params.defaults = []) (hr : Room k callerA) (hY : ∀ (w : World) (h : Heap), YP w h → (K w.params).In h)
    (D : ∀ (w : World) (mg : Str → Option Value) (fa : Addr) (h : Heap), (K w.params).In h → h.Ns mainGlobals mg → mg d.name = some (.ref fa) →
      ∃ fd : FuncData, (∀ (s : Shared) (u : Value), BindsTo s fd ⟨[u], []⟩ [(x, u)]) ∧ ∀ base : Heap, (K w.params).In base → base.Ns mainGlobals mg → DefOk l.prog w ⟨K w.params, mg⟩ base k fa fd [x] F)
    (hF : ∀ ns : List Int, ns.length ≤ n → ∃ h', F [.ros (ns.map Va.int)] [] = .ok (.bl true) h') : PySem.W.WalkO q loose XP YP l.row.toRowW d [] (fun f vs => PySem.call f vs) := by
  refine Att.attach_call hn hdf fun w s₀ s₁ mg mb fa o pm cd doc a vs ns G Y ho hd hcd hmg hobj hints hlen hg => ?_
  obtain ⟨fd, hb, hD⟩ := D w mg fa _ (hY w _ Y) G.T.g hmg
  exact law_run (hY w _ Y) G.T.g G.T.b G.T.builtins G.T.nolimit hg hobj hints (Nat.le_trans hlen hn2) hr hD hb (hF ns hlen)
end Fw
namespace Fw
open PySem PySem.Spec L2
theorem se_gintE {X : Cx} {W : WX} {x : Str} {i : Int} {pos : Pos} (hg : Gl X x) (h : ∃ t, X.mg x = some (.int i t)) (hd : (x == ("__debug__" : Str)) = false := by decide) : PE X (.Name x pos) (tE (ctOf X) W (sK (.int i))) := by
  obtain ⟨t, h⟩ := h
  exact se_gint hg h hd
end Fw

set_option Elab.async false
set_option linter.all false
set_option maxRecDepth 100000
set_option maxHeartbeats 2000000
set_option autoImplicit false
namespace Fw
open PySem PySem.Spec L2
open PyProof.Rows hiding St
/-! ### a text read backward -/
@[simp] def kRev : Va → Hs → Rs Va
  | .str x => fun h => if x.length ≤ 16777216 then .ok (.str x.reverse) h else .bad
  | .loc n => fun h => match h[n]? with
    | some (.lst xs) => newL xs.reverse h
    | _ => .bad
  | .ros xs => newL xs.reverse
  | _ => fun _ => .bad
theorem rev_pick (z : Str) : (Builtin.Str.strSliceIndices none none (-1) z.length).filterMap (z.cps[·]?) = z.cps.toList.reverse := by
  have e : Builtin.Str.strSliceIndices none none (-1) z.length = sliceRange ((z.length : Int) - 1) (-1) (-1) := by
    unfold Builtin.Str.strSliceIndices
    rfl
  rw [e, PySem.W.krv_sliceRange, PySem.W.krv_range, List.filterMap_reverse]
  congr 1
  exact PySem.W.krv_all z.cps
def tRevS (te : TE) : TE := fun σ H Q => te σ H fun x H1 => ∃ z, x = .str z ∧ z.length ≤ sizeLine ∧ Q (.str ⟨z.cps.toList.reverse.toArray⟩) H1
theorem pe_revS {X : Cx} {e : Expr} {te : TE} {k : Nat} {p1 p2 p3 pos : Pos} (he : PE X e te) : PE X (.Subscript e (.Slice none none (some (.UnaryOp .USub (.Constant (.int 1) k p1) p2)) p3) pos) (tRevS te) := by
  refine ⟨fun pins s σ H Q I h => ?_⟩
  refine Subscript_ (thn (he.run pins s σ H _ I h) fun v s1 ⟨x, H1, I1, r1, q1⟩ => ?_)
  obtain ⟨z, ex, hz, q⟩ := q1
  subst ex
  obtain ⟨t, rfl⟩ := r1
  have hst : PO X (some (.UnaryOp .USub (.Constant (.int 1) k p1) p2)) (tPart (tUn (rU fun i => .int (-i)) (tC (.int 1)))) := po_some (pe_un un_neg pe_int)
  refine wpAny_Slice (thn (po_none.run pins s1 σ H1 (fun o H2 => o = none ∧ H2 = H1) I1 ⟨rfl, rfl⟩) fun vl s2 ⟨l, H2, I2, pl, el, e2⟩ => ?_)
  subst el e2
  refine thn (po_none.run pins s2 σ H2 (fun o H3 => o = none ∧ H3 = H2) I2 ⟨rfl, rfl⟩) fun vu s3 ⟨u, H3, I3, pu, eu, e3⟩ => ?_
  subst eu e3
  refine thn (hst.run pins s3 σ H3 (fun o H4 => o = some (-1) ∧ H4 = H3) I3 ⟨1, rfl, -1, rfl, rfl, rfl⟩) fun vs s4 ⟨o, H4, I4, ps, eo, e4⟩ => ?_
  subst eo e4
  have I5 : Inv X pins σ H4 { s4 with heap := s4.heap.push { cls := .type "slice", data := .fields #[vl, vu, vs] } } := I4.kept (t' := s4.toks) fun b ob q => Heap.get?_push_of_some _ q
  obtain ⟨l1, e1, e2⟩ := IsPart.raw pl
  obtain ⟨u1, f1, f2⟩ := IsPart.raw pu
  obtain ⟨w1, g1, g2⟩ := IsPart.raw ps
  subst e1 f1 g1
  show wpAny (model X.prog X.w) X.A (subscriptTail e (.Slice none none (some (.UnaryOp .USub (.Constant (.int 1) k p1) p2)) p3) (.str z t) (.ref s4.heap.objs.size)) (EP X pins σ Q) X.xe _
  refine tail_any (ops := [.str z t, .ref s4.heap.objs.size]) (typeIs_str _ _ _) (F.slot_str_getitem.lookup) ?_ (by with_unfolding_all rfl)
  refine wpAny_getItem_str_slice (l := l1) (u := u1) (st := w1) ⟨_, Heap.get?_push_size _ rfl, rfl, rfl⟩ (by rw [g2]; rfl) ?_
  unfold sliceMade slicePicked
  rw [e2, f2, g2]
  show Made.post (.str ⟨((Builtin.Str.strSliceIndices none none (-1) z.length).filterMap (z.cps[·]?)).toArray⟩) (EP X pins σ Q) _
  rw [rev_pick]
  refine ⟨?_, .str _, H4, I5.tok _, ⟨_, rfl⟩, q⟩
  simp only [Str.length, List.size_toArray, List.length_reverse, Array.length_toList]
  exact hz
theorem RpL.app {C : Ct} {ρ : List Addr} {H : Hp} : ∀ {xs ys : List Va} {vs us : List V}, RpL C ρ H xs vs → RpL C ρ H ys us → RpL C ρ H (xs ++ ys) (vs ++ us)
  | _, _, _, _, .nil, b => b
  | _, _, _, _, .cons r a, b => .cons r (RpL.app a b)
theorem RpL.rev {C : Ct} {ρ : List Addr} {H : Hp} : ∀ {xs : List Va} {vs : List V}, RpL C ρ H xs vs → RpL C ρ H xs.reverse vs.reverse
  | _, _, .nil => .nil
  | _, _, .cons r a => by
    rw [List.reverse_cons, List.reverse_cons]
    exact RpL.app (RpL.rev a) (.cons r .nil)
theorem pe_or {X : Cx} {e : Expr} {t t' : TE} (h : PE X e t) (h' : PE X e t') : PE X e (fun σ H Q => t σ H Q ∨ t' σ H Q) := ⟨fun pins s σ H Q I q => q.elim (h.run pins s σ H Q I) (h'.run pins s σ H Q I)⟩
theorem se_rev {X : Cx} {W : WX} {e : Expr} {fe : Sx} {k : Nat} {p1 p2 p3 pos : Pos} (he : PE X e (tE (ctOf X) W fe)) : PE X (.Subscript e (.Slice none none (some (.UnaryOp .USub (.Constant (.int 1) k p1) p2)) p3) pos) (tE (ctOf X) W (s1 kRev fe)) :=
  pe_of (pe_or (pe_revS he) (pe_revL he)) fun σ H Q h => by
    obtain ⟨ρ, e, hh, hs, hr, p⟩ := h
    unfold s1 bnd at p
    cases q : fe e hh with
    | ok x h1 =>
      rw [q] at p
      cases x with
      | str z =>
        refine .inl ⟨ρ, e, hh, hs, hr, ?_⟩
        rw [q]
        intro ρ' H' v ex hr' rv
        cases rv
        have p : Po _ _ _ _ ρ' H' (if z.length ≤ 16777216 then _ else _) := Po.mono ex p
        split at p
        · rename_i c
          exact ⟨_, rfl, by rw [line_eq]; simpa [Str.length] using c, by simpa using Po_ok p hr' (.str _)⟩
        · exact p.elim
      | loc n =>
        refine .inr ⟨ρ, e, hh, hs, hr, ?_⟩
        rw [q]
        intro ρ' H' v ex hr' rv
        have p : Po _ _ _ _ ρ' H' (match h1[n]? with | some (.lst xs) => newL xs.reverse h1 | _ => .bad) := Po.mono ex p
        split at p
        · rename_i xs hn
          obtain ⟨a, vs, rfl, ha, hl, rl⟩ := hr'.ls_ hn rv
          exact ⟨a, vs, rfl, SqL.of hl, (newL_of hr' (RpL.rev rl) p).2⟩
        · exact p.elim
      | ros xs =>
        refine .inr ⟨ρ, e, hh, hs, hr, ?_⟩
        rw [q]
        intro ρ' H' v ex hr' rv
        have p : Po _ _ _ _ ρ' H' (newL xs.reverse h1) := Po.mono ex p
        cases rv with
        | ros hq rl => exact ⟨_, _, rfl, hq.sq, (newL_of hr' (RpL.rev rl) p).2⟩
      | _ => exact p.elim
    | ex x h1 =>
      rw [q] at p
      refine .inl ⟨ρ, e, hh, hs, hr, ?_⟩
      rw [q]
      exact p
    | bad => rw [q] at p; exact p.elim
end Fw

set_option Elab.async false
set_option linter.all false
set_option maxRecDepth 100000
set_option maxHeartbeats 2000000
set_option autoImplicit false
namespace Fw
open PySem PySem.Spec L2
open PyProof.Rows hiding St
end Fw

set_option Elab.async false
set_option linter.all false
set_option maxRecDepth 100000
set_option maxHeartbeats 2000000
set_option autoImplicit false
namespace Fw
open PySem PySem.Spec L2
open PyProof.Rows hiding St
/-! ### dicts whose keys are ints and texts -/
theorem RpK.length {C : Ct} {ρ : List Addr} {H : Hp} : ∀ {xs : List (Va × Va)} {vs : List (Key × V)}, RpK C ρ H xs vs → xs.length = vs.length
  | _, _, .nil => rfl
  | _, _, .cons e r rs => by simp [RpK.length rs]
theorem PSet.or {X : Cx} {t t' : TSet} (a : PSet X t) (b : PSet X t') : PSet X (fun o i v H Q => t o i v H Q ∨ t' o i v H Q) := by
  intro pins s σ H o i v ov iv u Q I ro ri rv h
  rcases h with h | h
  · exact a pins s σ H o i v ov iv u Q I ro ri rv h
  · exact b pins s σ H o i v ov iv u Q I ro ri rv h
end Fw

set_option Elab.async false
set_option linter.all false
set_option maxRecDepth 100000
set_option maxHeartbeats 2000000
set_option autoImplicit false
namespace Fw
open PySem PySem.Spec L2
open PyProof.Rows hiding St
/-! ### sorted, a list of pairs of ints -/
def leP (a b : Int × Int) : Prop := a.1 < b.1 ∨ (a.1 = b.1 ∧ a.2 ≤ b.2)
instance (a b : Int × Int) : Decidable (leP a b) := by unfold leP; infer_instance
/-- these values are these pairs -/
inductive Prs (K : PySem.W.Frag) (H : Hp) : List V → List (Int × Int) → Prop
  | nil : Prs K H [] []
  | cons {t : Addr} {i j : Int} {xs : List V} {ps : List (Int × Int)} : SqD K H t [.int i, .int j] → Prs K H xs ps → Prs K H (.ref t :: xs) ((i, j) :: ps)
theorem Prs.mem {K : PySem.W.Frag} {H : Hp} : ∀ {xs : List V} {ps : List (Int × Int)}, Prs K H xs ps → ∀ x ∈ xs, ∃ t i j, x = V.ref t ∧ SqD K H t [.int i, .int j]
  | _, _, .nil, x, m => by simp at m
  | _, _, .cons h r, x, m => by
    rcases List.mem_cons.mp m with rfl | m
    · exact ⟨_, _, _, rfl, h⟩
    · exact Prs.mem r x m
theorem Prs.key {K : PySem.W.Frag} {H : Hp} {k : V → Int × Int} (hk : ∀ t i j, SqD K H t [.int i, .int j] → k (.ref t) = (i, j)) : ∀ {xs : List V} {ps : List (Int × Int)}, Prs K H xs ps → ps = xs.map k
  | _, _, .nil => rfl
  | _, _, .cons h r => by rw [List.map_cons, hk _ _ _ h, ← Prs.key hk r]
theorem Prs.of_key {K : PySem.W.Frag} {H : Hp} {k : V → Int × Int} (hk : ∀ t i j, SqD K H t [.int i, .int j] → k (.ref t) = (i, j)) : ∀ {xs : List V}, (∀ x ∈ xs, ∃ t i j, x = V.ref t ∧ SqD K H t [.int i, .int j]) → Prs K H xs (xs.map k)
  | [], _ => .nil
  | x :: xs, h => by
    obtain ⟨t, i, j, rfl, q⟩ := h x List.mem_cons_self
    rw [List.map_cons, hk t i j q]
    exact .cons q (Prs.of_key hk fun y m => h y (List.mem_cons_of_mem _ m))
end Fw

set_option Elab.async false
set_option linter.all false
set_option maxRecDepth 100000
set_option maxHeartbeats 2000000
set_option autoImplicit false
namespace Fw
open PySem PySem.Spec L2
open PyProof.Rows hiding St
/-! ### x in s -/
def flA : Va → Bool
  | .non => true
  | .bl _ => true
  | .int _ => true
  | .str _ => true
  | _ => false
def eqA : Va → Va → Bool
  | .non, .non => true
  | .bl a, .bl b => a == b
  | .bl a, .int b => (if a then 1 else 0) == b
  | .int a, .bl b => a == (if b then 1 else 0)
  | .int a, .int b => a == b
  | .str a, .str b => decide (a = b)
  | _, _ => false
def inA (x : Va) (xs : List Va) : Bool := xs.any fun y => eqA y x
def inS (x z : List Nat) : Bool := match x with
  | [c] => decide (c ∈ z)
  | x => !(Builtin.Str.occurrences ⟨z.toArray⟩ ⟨x.toArray⟩ 0 (⟨z.toArray⟩ : Str).length 1).isEmpty
def ngB (neg b : Bool) : Bool := if neg then !b else b
def kInQ (neg : Bool) (x : Va) (xs : List Va) (h : Hs) : Rs Va := if flA x = true ∧ xs.all flA = true then .ok (.bl (ngB neg (inA x xs))) h else .bad
def kInD (neg : Bool) (x y : Va) (h : Hs) : Rs Va := match rdV h 24 x, rdV h 24 y with
  | some d, some (.list ds) => if SeqAt.shaped d = true ∧ SeqAt.shaped (.list ds) = true then .ok (.bl (ngB neg (ds.any fun z => PyData.eqv z d))) h else .bad
  | _, _ => .bad
def kIn (neg : Bool) : Va → Va → Hs → Rs Va
  | .str x, .str z => fun h => .ok (.bl (ngB neg (inS x z))) h
  | x, .tup xs => kInQ neg x xs
  | x, .tpw xs => kInQ neg x xs
  | x, .ros xs => kInQ neg x xs
  | x, .loc n => fun h => match h[n]? with
    | some (.lst xs) => if flA x = true ∧ xs.all flA = true then kInQ neg x xs h else kInD neg x (.loc n) h
    | _ => .bad
  | _, _ => fun _ => .bad
section
variable {C : Ct} {ρ : List Addr} {H : Hp}
theorem flA_V {x : Va} {v : V} (r : Rp C ρ H x v) (f : flA x = true) : flatV v = true := by cases r <;> first | rfl | cases f
theorem flA_all : ∀ {xs : List Va} {vs : List V}, RpL C ρ H xs vs → xs.all flA = true → vs.all flatV = true
  | _, _, .nil, _ => rfl
  | _, _, .cons r rs, f => by
    rw [List.all_cons, Bool.and_eq_true] at f ⊢
    exact ⟨flA_V r f.1, flA_all rs f.2⟩
theorem strEqV (a b : List Nat) : ((⟨a.toArray⟩ : Str) == ⟨b.toArray⟩) = decide (a = b) := by
  by_cases e : a = b
  · subst e; simp
  · rw [decide_eq_false e]
    rw [beq_eq_false_iff_ne]
    intro q
    injection q with q
    exact e (by simpa using congrArg Array.toList q)
theorem eqA_V {x y : Va} {v u : V} (rx : Rp C ρ H x v) (ry : Rp C ρ H y u) (fx : flA x = true) (fy : flA y = true) : eqV v u = eqA x y := by
  cases rx <;> cases ry <;> first
    | rfl
    | exact strEqV _ _
    | cases fx
    | cases fy
theorem inA_V {x : Va} {v : V} (rx : Rp C ρ H x v) (fx : flA x = true) : ∀ {xs : List Va} {vs : List V}, RpL C ρ H xs vs → xs.all flA = true → inV v vs = inA x xs
  | _, _, .nil, _ => rfl
  | _, _, .cons r rs, f => by
    rw [List.all_cons, Bool.and_eq_true] at f
    have ih := inA_V rx fx rs f.2
    unfold inV at ih ⊢
    unfold inA at ih ⊢
    rw [List.any_cons, List.any_cons, eqA_V r rx f.1 fx, ih]
end
theorem units5 {k : Nat} {A : Around} (r : Room k A) : A.units + 65 < cLine := by have := r.un; omega
section
variable {X : Cx}
def rInAll (K : PySem.W.Frag) (neg : Bool) : R2 := fun x y H Q =>
  (∃ (c : Nat) (z : Str), x = .str ⟨#[c]⟩ ∧ y = .str z ∧ Q (.bl (ngB neg (decide (c ∈ z.cps.toList)))) H) ∨
  (∃ i j, x = .str i ∧ y = .str j ∧ Q (.bl (ngB neg (!(Builtin.Str.occurrences j i 0 j.length 1).isEmpty))) H) ∨ rIn K neg x y H Q ∨
  (∃ d ds, Dp K H x d ∧ Dp K H y (.list ds) ∧ SeqAt.shaped d = true ∧ SeqAt.shaped (.list ds) = true ∧ Q (.bl (ngB neg (ds.any fun z => PyData.eqv z d))) H)
theorem vIn {neg : Bool} : VOp (ctOf X) (rInAll X.K neg) (kIn neg) := by
  intro ρ H h x y v u W Q hr rx ry p
  have qq : ∀ {xs : List Va} {vs : List V} {q : Addr}, (SqL X.K H q vs ∨ SqT X.K H q vs) → RpL (ctOf X) ρ H xs vs → u = .ref q → Po (ctOf X) (Rp (ctOf X)) W Q ρ H (kInQ neg x xs h) → rInAll X.K neg v u H Q := by
    intro xs vs q hq rl hu p
    unfold kInQ at p
    split at p
    · rename_i c
      refine .inr (.inr (.inl ⟨q, vs, hu, hq, flA_V rx c.1, flA_all rl c.2, ?_⟩))
      rw [inA_V rx c.1 rl c.2]
      exact Po_ok p hr (.bl _)
    · exact p.elim
  cases ry with
  | str z =>
    cases rx with
    | str s =>
      have p : Po (ctOf X) (Rp (ctOf X)) W Q ρ H (.ok (.bl (ngB neg (inS s z))) h) := p
      have gen : inS s z = !(Builtin.Str.occurrences ⟨z.toArray⟩ ⟨s.toArray⟩ 0 (⟨z.toArray⟩ : Str).length 1).isEmpty → rInAll X.K neg (.str ⟨s.toArray⟩) (.str ⟨z.toArray⟩) H Q := fun e => by
        refine .inr (.inl ⟨_, _, rfl, rfl, ?_⟩)
        rw [← e]
        exact Po_ok p hr (.bl _)
      match s with
      | [c] => exact .inl ⟨c, _, rfl, rfl, Po_ok p hr (.bl _)⟩
      | [] => exact gen rfl
      | _ :: _ :: _ => exact gen rfl
    | _ => exact p.elim
  | tup hq rl => cases x <;> exact qq (.inr hq.sq) rl rfl p
  | tpw hq rl => cases x <;> exact qq (.inr hq) rl rfl p
  | ros hq rl => cases x <;> exact qq (.inl hq.sq) rl rfl p
  | loc hq =>
    rename_i m a
    have p : Po (ctOf X) (Rp (ctOf X)) W Q ρ H (match h[m]? with
      | some (.lst xs) => if flA x = true ∧ xs.all flA = true then kInQ neg x xs h else kInD neg x (.loc m) h
      | _ => .bad) := by cases x <;> exact p
    split at p
    · rename_i xs hm
      obtain ⟨a', vs, e1, e2, e3, e4⟩ := hr.ls_ hm (.loc hq)
      cases e1
      split at p
      · exact qq (.inl (SqL.of e3)) e4 rfl p
      · unfold kInD at p
        split at p
        · rename_i d ds hd he
          split at p
          · rename_i c
            exact .inr (.inr (.inr ⟨d, ds, rdV_dp hr 24 x v d rx hd, rdV_dp hr 24 (.loc m) _ (.list ds) (.loc hq) he, c.1, c.2, Po_ok p hr (.bl _)⟩))
          · exact p.elim
        · exact p.elim
    · exact p.elim
  | non => cases x <;> exact p.elim
  | bl b => cases x <;> exact p.elim
  | int i => cases x <;> exact p.elim
  | fn q => cases x <;> exact p.elim
  | ty n => cases x <;> exact p.elim
  | rg _ => cases x <;> exact p.elim
theorem ks_in (hu : X.A.units + 64 < cLine) (hu' : X.A.units + 65 < cLine) : OpK X (compareOp .In) (kIn false) := ⟨_, OpR.or op_in_sign (OpR.or op_in_str (OpR.or op_in_seq (op_inD hu'))), vIn (neg := false)⟩
theorem ks_nin (hu : X.A.units + 64 < cLine) (hu' : X.A.units + 65 < cLine) : OpK X (compareOp .NotIn) (kIn true) := ⟨_, OpR.or op_notIn_sign (OpR.or op_notIn_str (OpR.or op_notIn_seq (op_notInD hu'))), vIn (neg := true)⟩
end
end Fw

set_option Elab.async false
set_option linter.all false
set_option maxRecDepth 100000
set_option maxHeartbeats 2000000
set_option autoImplicit false
namespace Fw
open PySem PySem.Spec L2
open PyProof.Rows hiding St
end Fw

set_option Elab.async false
set_option linter.all false
set_option maxRecDepth 100000
set_option maxHeartbeats 2000000
set_option autoImplicit false
namespace Fw
open PySem PySem.Spec L2
open PyProof.Rows hiding St
/-! ### tuples of constants among the module's names -/
theorem se_gtupE {X : Cx} {W : WX} {x : Str} {xs : List Va} {vs : List V} {pos : Pos} (hg : Gl X x) (h : ∃ a, X.mg x = some (.ref a) ∧ ∀ H, SqT X.K H a vs) (r : ∀ C ρ H, RpL C ρ H xs vs) (hd : (x == ("__debug__" : Str)) = false := by decide) : PE X (.Name x pos) (tE (ctOf X) W (sK (.tpw xs))) := by
  obtain ⟨a, hm, hs⟩ := h
  exact pe_of (pe_glob (v := .ref a) hg hm rfl (hd := hd)) fun σ H Q h => by
    obtain ⟨ρ, e, h1, hs1, hr, p⟩ := h
    exact Po_ok p hr (.tpw (hs H) (r _ ρ H))
theorem rp_strs {C : Ct} {ρ : List Addr} {H : Hp} : ∀ xs : List (List Nat), RpL C ρ H (xs.map Va.str) (xs.map fun x => V.str ⟨x.toArray⟩)
  | [] => .nil
  | x :: xs => .cons (.str x) (rp_strs xs)
theorem sqT_known {K : PySem.W.Frag} {H : Hp} {a : Addr} {xs : List V} {od : Option Addr} {its : Array Value} {n : Nat} {sl : Array (Option Value)} (h : K.lookup a = some ⟨.type "tuple", od, .seq its n, sl⟩) (l : its.size ≤ sizeLine) (v : Vals xs its.toList) : SqT K H a xs := .inr ⟨_, its, n, h, rfl, rfl, l, v⟩
section
variable {X : Cx}
end
end Fw

set_option Elab.async false
set_option linter.all false
set_option maxRecDepth 100000
set_option maxHeartbeats 2000000
set_option autoImplicit false
namespace Fw
open PySem PySem.Spec L2
open PyProof.Rows hiding St
section
variable {X : Cx}
end
end Fw

set_option Elab.async false
set_option linter.all false
set_option maxRecDepth 100000
set_option maxHeartbeats 2000000
set_option autoImplicit false
namespace Fw
open PySem PySem.Spec L2
open PyProof.Rows hiding St
section
variable {X : Cx} {W : WX} {a b c d : Expr} {fa fb fc fd : Sx} {ta tb tc td : TE} {pos : Pos}
end
end Fw

set_option Elab.async false
set_option linter.all false
set_option maxRecDepth 100000
set_option maxHeartbeats 2000000
set_option autoImplicit false
namespace Fw
open PySem PySem.Spec L2
open PyProof.Rows hiding St
section
variable {X : Cx} {W : WX} {tg a b c e : Expr} {fe : Sx} {fa : Sm (List Va)} {p pos : Pos}
end
def lnRg (i j : Int) : Prop := -(2 ^ 62) ≤ i ∧ i < 2 ^ 62 ∧ -(2 ^ 62) ≤ j ∧ j < 2 ^ 62 ∧ (j - i).toNat ≤ 2 ^ 24
instance (i j : Int) : Decidable (lnRg i j) := by unfold lnRg; infer_instance
section
variable {X : Cx} {W : WX} {a b : Expr} {fa fb : Sx} {p pos p' pos' : Pos}
end
end Fw

set_option Elab.async false
set_option linter.all false
set_option maxRecDepth 100000
set_option maxHeartbeats 2000000
set_option autoImplicit false
namespace Fw
open PySem PySem.Spec L2 PyProof
open PyProof.Rows hiding St
/-! ### o[i] op= e -/
section
variable {X : Cx} {W : WX}
end
end Fw

set_option Elab.async false
set_option linter.all false
set_option maxRecDepth 100000
set_option maxHeartbeats 2000000
set_option autoImplicit false
namespace Fw
open PySem PySem.Spec L2 RZ
open PyProof.Rows hiding St
section
variable {C : Ct} {ρ : List Addr} {H : Hp}
end
end Fw

set_option Elab.async false
set_option linter.all false
set_option maxRecDepth 100000
set_option maxHeartbeats 2000000
set_option autoImplicit false
namespace Fw
open PySem PySem.Spec L2
open PyProof.Rows hiding St
end Fw

set_option Elab.async false
set_option linter.all false
set_option maxRecDepth 100000
set_option maxHeartbeats 2000000
set_option autoImplicit false
namespace Fw
open PySem PySem.Spec L2
open PyProof.Rows hiding St
/-! ### {k: v, ..} -/
inductive RpP (C : Ct) (ρ : List Addr) (H : Hp) : List (Va × Va) → List (V × V) → Prop
  | nil : RpP C ρ H [] []
  | cons {x y : Va} {v u : V} {ps : List (Va × Va)} {qs : List (V × V)} : Rp C ρ H x v → Rp C ρ H y u → RpP C ρ H ps qs → RpP C ρ H ((x, y) :: ps) ((v, u) :: qs)
section
variable {X : Cx} {W : WX}
end
end Fw

set_option Elab.async false
set_option linter.all false
set_option maxRecDepth 100000
set_option maxHeartbeats 2000000
set_option autoImplicit false
namespace Fw
open PySem PySem.Spec L2
open PyProof.Rows hiding St
/-! ### t[lo:hi], the whole of it too -/
def kSlW : Va → Option Int → Option Int → Hs → Rs Va
  | .tup xs, lo, hi => fun h => if HT.sIx xs.length 0 lo = 0 ∧ HT.sIx xs.length xs.length hi = xs.length then .ok (.tup xs) h else .ok (.tup (cutA xs lo hi)) h
  | x, lo, hi => kSl x lo hi
section
variable {X : Cx} {W : WX} {e : Expr} {lo hi : Option Expr} {fe : Sx} {fl fh : Sm (Option Int)} {pos p2 : Pos}
end
/-! ### t + u, also with an empty one -/
def kAddW (x y : Va) (h : Hs) : Rs Va := match x with
  | .tup xs => match y with
    | .tup ys => if xs.length + ys.length ≤ 16777216 then .ok (.tup (xs ++ ys)) h else .bad
    | y => kAdd (.tup xs) y h
  | x => kAdd x y h
end Fw

set_option Elab.async false
set_option linter.all false
set_option maxRecDepth 100000
set_option maxHeartbeats 2000000
set_option autoImplicit false
namespace Fw
open PySem PySem.Spec L2 PyProof PyProof.Rows
/-! ### the least of a tuple of ints -/
section
variable {prog : Program} {w : World} {A : Around} {E : Value → Shared → Prop} {s : Shared} {l : Addr}
theorem min_intTup {xs : Array (Int × Tok)} {Q : Value → Shared → Prop} (hh : A.handled = none) (hl : s.heap.IsTuple l (intItems xs)) (hne : 0 < xs.size)
    (h : ∀ v h' tk, (intItems xs)[argBest (fun i j => decide (numAt xs i < numAt xs j)) (xs.size - 1)]? = some v → (∀ b o, s.heap.get? b = some o → h'.get? b = some o) → Q v { s with heap := h', toks := tk }) :
    wpAny (model prog w) A (call (.builtin "min") [.ref l]) Q E s := by
  have hlt : l < s.heap.objs.size := by obtain ⟨_, e, _⟩ := hl; exact Heap.lt_size e
  refine call_min_walk (wpAny_pyIter_tuple hl ?_)
  refine ⟨_, [_, l], [_], _, _, _, _, rfl, Walks.tuple (A := A.in1) hh _ l (Nat.ne_of_lt hlt) (intItems xs), ⟨⟨_, Heap.get?_push_size _ rfl, rfl, rfl⟩, hl.push _⟩, fun d hd => ?_, by simpa [intItems] using hne, CmpOf.ints_lt (numAt xs) (fun _ _ => intItems_at), fun v h' tk hP hk => ?_⟩
  · show d < (s.heap.push _).objs.size
    rw [Heap.size_push]
    rcases List.mem_cons.mp hd with rfl | hd
    · exact Nat.lt_succ_self _
    · rcases List.mem_cons.mp hd with rfl | hd
      · exact Nat.lt_succ_of_lt hlt
      · cases hd
  · exact h v h' tk (by simpa [intItems] using hP) fun b o e => hk b o (fun m => Nat.ne_of_lt (Heap.lt_size e) (by simpa using m)) (Heap.get?_push_of_some _ e)
theorem min_rawT {its : List Value} {ns : List Int} {Q : Value → Shared → Prop} (hh : A.handled = none) (hl : s.heap.IsTuple l its.toArray) (hi : IntsAre its ns) (hne : 0 < ns.length)
    (h : ∀ h' tk M t', (∀ b o, s.heap.get? b = some o → h'.get? b = some o) → M ∈ ns → (∀ a, a ∈ ns → M ≤ a) → Q (.int M t') { s with heap := h', toks := tk }) : wpAny (model prog w) A (call (.builtin "min") [.ref l]) Q E s := by
  obtain ⟨xs, e⟩ := hi.allInts.items
  have hn : numsOf (intItems xs).toList = ns := by rw [← e]; exact hi.numsOf
  rw [nums_intItems] at hn
  subst hn
  rw [e] at hl
  have hsz : 0 < xs.size := by simpa using hne
  refine min_intTup hh hl hsz fun v h' tk hv hk => ?_
  obtain ⟨t, rfl⟩ := intItems_at hv
  obtain ⟨h1, h2⟩ := argBest_lt (numAt xs) (xs.size - 1)
  refine h h' tk _ t hk ?_ fun a ha => ?_
  · rw [numAt_eq]; exact PySem.getD_mem (by rw [List.length_map, Array.length_toList]; omega)
  · obtain ⟨j, hj, rfl⟩ := mem_getD ha
    rw [List.length_map, Array.length_toList] at hj
    rw [← numAt_eq]; exact h2 j (by omega)
end
section
variable {X : Cx}
def rMinT (K : PySem.W.Frag) : List V → Hp → VK → Prop := fun vs H Q => ∃ (a : Addr) (ns : List Int), vs = [V.ref a] ∧ SqT K H a (ns.map V.int) ∧ 0 < ns.length ∧ ∀ m, m ∈ ns → (∀ y, y ∈ ns → m ≤ y) → Q (.int m) H
theorem cr_minT (hc : X.calm = true) : CallR X (.builtin "min") (rMinT X.K) := by
  intro pins s σ H vs us Q I r h
  obtain ⟨a, ns, rfl, hs, hne, q⟩ := h
  obtain ⟨its, rv, hl, _⟩ := I.tuple hs
  rw [Vals.ref1 r]
  exact min_rawT (I.ok.hd hc) (show s.heap.IsTuple a its.toArray from hl) rv.ints hne fun h' tk m t' hk h1 h2 => ⟨.int _, H, I.kept hk, ⟨_, rfl⟩, q m h1 h2⟩
end
def leastI : Int → List Int → Int
  | m, [] => m
  | m, x :: r => leastI (if x < m then x else m) r
def kMinW : List Va → Hs → Rs Va
  | [.tup xs] => fun h => match mapO asI xs with
    | some (n :: ns) => .ok (.int (leastI n ns)) h
    | _ => .bad
  | xs => kMin xs
theorem leastI_le : ∀ (m : Int) (ns : List Int), leastI m ns ≤ m ∧ (∀ x ∈ ns, leastI m ns ≤ x) ∧ (leastI m ns = m ∨ leastI m ns ∈ ns)
  | m, [] => ⟨Int.le_refl _, (fun x h => nomatch h), Or.inl rfl⟩
  | m, x :: r => by
    obtain ⟨h1, h2, h3⟩ := leastI_le (if x < m then x else m) r
    have hh : (if x < m then x else m) ≤ m ∧ (if x < m then x else m) ≤ x := by split <;> omega
    refine ⟨Int.le_trans h1 hh.1, fun y hy => ?_, ?_⟩
    · rcases List.mem_cons.mp hy with rfl | hy
      · exact Int.le_trans h1 hh.2
      · exact h2 y hy
    · show leastI (if x < m then x else m) r = m ∨ leastI (if x < m then x else m) r ∈ x :: r
      rcases h3 with h3 | h3
      · rw [h3]
        split
        · exact .inr (List.mem_cons_self ..)
        · exact .inl rfl
      · exact .inr (List.mem_cons_of_mem _ h3)
theorem leastI_eq {m : Int} {n : Int} {ns : List Int} (h1 : m ∈ n :: ns) (h2 : ∀ y, y ∈ n :: ns → m ≤ y) : m = leastI n ns := by
  obtain ⟨a, b, c⟩ := leastI_le n ns
  have lo : leastI n ns ≤ m := by
    rcases List.mem_cons.mp h1 with rfl | h
    · exact a
    · exact b m h
  have hi : m ≤ leastI n ns := by
    rcases c with c | c
    · rw [c]; exact h2 n (List.mem_cons_self ..)
    · exact h2 _ (List.mem_cons_of_mem _ c)
  omega
theorem cs_minW {X : Cx} (hc : X.calm = true) : CaK X (.builtin "min") kMinW := by
  refine ⟨fun vs H Q => rMinT X.K vs H Q ∨ (∃ i j, vs = [.int i, .int j] ∧ Q (.int (if j < i then j else i)) H), ?_, ?_⟩
  · intro pins s σ H vs us Q I r h
    rcases h with h | h
    · exact cr_minT hc pins s σ H vs us Q I r h
    · exact call_min2 hc pins s σ H vs us Q I r h
  · intro ρ H h xs vs W Q hr r p
    unfold kMinW at p
    split at p
    · rename_i ys
      split at p
      · rename_i n ns e
        obtain ⟨v, rfl, rv⟩ := one_arg r rfl
        cases rv with
        | tup hq rl =>
          have := ints_of rl e
          subst this
          refine .inl ⟨_, n :: ns, rfl, hq.sq, by simp, fun m h1 h2 => ?_⟩
          rw [leastI_eq h1 h2]
          exact Po_ok p hr (.int _)
      · exact p.elim
    · unfold kMin at p
      split at p
      · have e := two_args r
        subst e
        exact .inr ⟨_, _, rfl, Po_ok p hr (.int _)⟩
      · exact p.elim
end Fw

set_option Elab.async false
set_option linter.all false
set_option maxRecDepth 100000
set_option maxHeartbeats 2000000
set_option autoImplicit false
namespace Fw
open PySem PySem.Spec L2
open PyProof.Rows hiding St
section
variable {X : Cx}
end
end Fw

set_option Elab.async false
set_option linter.all false
set_option maxRecDepth 100000
set_option maxHeartbeats 2000000
set_option autoImplicit false
namespace Fw
open PySem PySem.Spec L2
open PyProof.Rows hiding St
/-! ### a tuple read backward -/
section
variable {prog : Program} {w : World} {A : Around} {E : Value → Shared → Prop} {s : Shared}
end
end Fw

set_option Elab.async false
set_option linter.all false
set_option maxRecDepth 100000
set_option maxHeartbeats 2000000
set_option autoImplicit false
namespace Fw
open PySem PySem.Spec L2
open PyProof.Rows hiding St
section
variable {prog : Program} {w : World} {A : Around} {E : Value → Shared → Prop} {s : Shared}
end
end Fw

set_option Elab.async false
set_option linter.all false
set_option maxRecDepth 100000
set_option maxHeartbeats 2000000
set_option autoImplicit false
namespace Fw
open PySem PySem.Spec L2
open PyProof.Rows hiding St
end Fw

set_option Elab.async false
set_option linter.all false
set_option maxRecDepth 100000
set_option maxHeartbeats 2000000
set_option autoImplicit false
namespace Fw
open PySem PySem.Spec L2
open PyProof.Rows hiding St
/-! ### sorted, a list of tuples of ints, of any lengths but none empty -/
def ltT : List Int → List Int → Bool
  | [], [] => false
  | [], _ :: _ => true
  | _ :: _, [] => false
  | x :: r, y :: t => decide (x < y) || (!decide (y < x) && ltT r t)
def leT (a b : List Int) : Prop := ltT b a = false
instance (a b : List Int) : Decidable (leT a b) := by unfold leT; infer_instance
/-- these values are these tuples -/
inductive Tps (K : PySem.W.Frag) (H : Hp) : List V → List (List Int) → Prop
  | nil : Tps K H [] []
  | cons {t : Addr} {is : List Int} {xs : List V} {ps : List (List Int)} : SqD K H t (is.map V.int) → is ≠ [] → Tps K H xs ps → Tps K H (.ref t :: xs) (is :: ps)
theorem Tps.mem {K : PySem.W.Frag} {H : Hp} : ∀ {xs : List V} {ps : List (List Int)}, Tps K H xs ps → ∀ x ∈ xs, ∃ t is, x = V.ref t ∧ SqD K H t (is.map V.int) ∧ is ≠ []
  | _, _, .nil, x, m => by simp at m
  | _, _, .cons h n r, x, m => by
    rcases List.mem_cons.mp m with rfl | m
    · exact ⟨_, _, rfl, h, n⟩
    · exact Tps.mem r x m
theorem Tps.key {K : PySem.W.Frag} {H : Hp} {k : V → List Int} (hk : ∀ t is, SqD K H t (is.map V.int) → k (.ref t) = is) : ∀ {xs : List V} {ps : List (List Int)}, Tps K H xs ps → ps = xs.map k
  | _, _, .nil => rfl
  | _, _, .cons h _ r => by rw [List.map_cons, hk _ _ h, ← Tps.key hk r]
theorem Tps.of_key {K : PySem.W.Frag} {H : Hp} {k : V → List Int} (hk : ∀ t is, SqD K H t (is.map V.int) → k (.ref t) = is) : ∀ {xs : List V}, (∀ x ∈ xs, ∃ t is, x = V.ref t ∧ SqD K H t (is.map V.int) ∧ is ≠ []) → Tps K H xs (xs.map k)
  | [], _ => .nil
  | x :: xs, h => by
    obtain ⟨t, is, rfl, q, n⟩ := h x List.mem_cons_self
    rw [List.map_cons, hk t is q]
    exact .cons q n (Tps.of_key hk fun y m => h y (List.mem_cons_of_mem _ m))
end Fw
namespace Fw
open PySem PySem.Spec L2
open PyProof.Rows hiding St
theorem asI_of {x : Va} {i : Int} (e : asI x = some i) : x = .int i := by
  unfold asI at e
  split at e
  · cases e; rfl
  · cases e
theorem intsT_of : ∀ {xs : List Va} {is : List Int}, mapO asI xs = some is → xs = is.map Va.int
  | [], _, e => by cases e; rfl
  | x :: xs, is, e => by
    unfold mapO at e
    split at e
    · rename_i y ys h1 h2
      cases e
      rw [asI_of h1, intsT_of h2]
      rfl
    · cases e
theorem vints_of {C : Ct} {ρ : List Addr} {H : Hp} : ∀ {is : List Int} {vs : List V}, RpL C ρ H (is.map Va.int) vs → vs = is.map V.int
  | [], _, .nil => rfl
  | i :: is, _, .cons r rs => by
    cases r
    rw [vints_of rs]
    rfl
end Fw

set_option Elab.async false
set_option linter.all false
set_option maxRecDepth 100000
set_option maxHeartbeats 2000000
set_option autoImplicit false
namespace Fw
open PySem PySem.Spec L2
open PyProof.Rows hiding St
/-! ### displays of two clauses -/
def lap (n : Nat) (s : Src) (g : Tg) (t : Sm Bool) (el : Sx) : Nat → Nat → En → Hs → Rs Unit
  | 0, i, _, h => match s i h with
    | some none => .ok () h
    | _ => .bad
  | k + 1, i, e, h => match s i h with
    | some (some x) => match g x e h with
      | .ok e' h1 => match t e' h1 with
        | .ok true h2 => match el e' h2 with
          | .ok y h3 => match kApp (.loc n) [y] h3 with
            | .ok _ h4 => lap n s g t el k (i + 1) e h4
            | _ => .bad
          | _ => .bad
        | .ok false h2 => lap n s g t el k (i + 1) e h2
        | _ => .bad
      | _ => .bad
    | _ => .bad
section
variable {X : Cx} {W : WX} {f f1 : Sit} {g g1 : Tg} {t t1 : Sm Bool} {el : Sx} {own own1 : List Nat} {gg gg1 : TG} {pos : Pos} {c : Expr}
end
end Fw
namespace Fw
open PySem PySem.Spec L2
open PyProof.Rows hiding St
section
variable {X : Cx} {W : WX} {f f1 : Sit} {g g1 : Tg} {t t1 : Sm Bool} {el : Sx} {own own1 : List Nat} {gg gg1 : TG} {pos : Pos} {c : Expr}
end
end Fw

set_option Elab.async false
set_option linter.all false
set_option maxRecDepth 100000
set_option maxHeartbeats 2000000
set_option autoImplicit false
namespace Fw
open PySem PySem.Spec L2
open PyProof.Rows hiding St
def kMinL : List Va → Hs → Rs Va
  | [.loc n] => fun h => match (lsA (.loc n) h).bind (mapO asI) with
    | some (n :: ns) => .ok (.int (leastI n ns)) h
    | _ => .bad
  | xs => kMinW xs
theorem lsI_of {C : Ct} {ρ : List Addr} {H : Hp} {h : Hs} {n : Nat} {v : V} {is : List Int} (hr : HR C ρ h H) (rv : Rp C ρ H (.loc n) v) (e : (lsA (.loc n) h).bind (mapO asI) = some is) : ∃ a, v = .ref a ∧ SqL C.K H a (is.map V.int) := by
  cases e1 : lsA (.loc n) h with
  | none => rw [e1] at e; cases e
  | some ys =>
    rw [e1] at e
    obtain ⟨a, us, rfl, hq, rl⟩ := lsA_of hr rv e1
    have e2 := intsT_of (show mapO asI ys = some is from e)
    subst e2
    have e3 := vints_of rl
    subst e3
    exact ⟨a, rfl, hq⟩
theorem cs_minL {X : Cx} (hc : X.calm = true) : CaK X (.builtin "min") kMinL := by
  obtain ⟨r2, c2, v2⟩ := cs_minW (X := X) hc
  refine ⟨_, CallR.or (cr_min hc) c2, ?_⟩
  intro ρ H h xs vs W Q hr r p
  unfold kMinL at p
  split at p
  · split at p
    · rename_i n ns e
      obtain ⟨v, rfl, rv⟩ := one_arg r rfl
      obtain ⟨a, rfl, hq⟩ := lsI_of hr rv e
      refine .inl ⟨a, _, rfl, hq, by simp, fun m h1 h2 => ?_⟩
      rw [leastI_eq h1 h2]
      exact Po_ok p hr (.int _)
    · exact p.elim
  · exact .inr (v2 ρ H h _ vs W Q hr r p)
end Fw

set_option Elab.async false
set_option linter.all false
set_option maxRecDepth 100000
set_option maxHeartbeats 2000000
set_option autoImplicit false
namespace Fw
open PySem PySem.Spec L2
open PyProof.Rows hiding St
section
variable {X : Cx} {W : WX} {a b c : Expr} {ta : TA} {fa : Sm (List Va)} {p pos p' pos' : Pos}
end
end Fw

set_option Elab.async false
set_option linter.all false
set_option maxRecDepth 100000
set_option maxHeartbeats 2000000
set_option autoImplicit false
namespace Fw
open PySem PySem.Spec L2 PyProof PyProof.Rows
/-! ### the greatest of a tuple of ints -/
section
variable {prog : Program} {w : World} {A : Around} {E : Value → Shared → Prop} {s : Shared} {l : Addr}
end
section
variable {X : Cx}
end
end Fw

set_option Elab.async false
set_option linter.all false
set_option maxRecDepth 100000
set_option maxHeartbeats 2000000
set_option autoImplicit false
namespace Fw
open PySem PySem.Spec L2
open PyProof.Rows hiding St
/-! ### range objects kept in a name -/
section
variable {X : Cx}
end
section
variable {X : Cx} {W : WX} {tg e : Expr} {fe : Sx}
end
end Fw

set_option Elab.async false
set_option linter.all false
set_option maxRecDepth 100000
set_option maxHeartbeats 2000000
set_option autoImplicit false
namespace Fw
open PySem PySem.Spec L2
open PyProof.Rows hiding St
/-! ### sorted of a dict of ai, of any length -/
section
variable {X : Cx}
end
end Fw

set_option Elab.async false
set_option linter.all false
set_option maxRecDepth 100000
set_option maxHeartbeats 2000000
set_option autoImplicit false
namespace Fw
open PySem PySem.Spec L2
open PyProof.Rows hiding St
end Fw

set_option Elab.async false
set_option linter.all false
set_option maxRecDepth 100000
set_option maxHeartbeats 2000000
set_option autoImplicit false
namespace Fw
open PySem PySem.Spec L2
open PyProof.Rows hiding St
section
variable {X : Cx} {o e : Expr} {es : List Expr} {to : TE} {t : TA} {name : Str} {apos cpos : Pos} {id : String} {r : V → List V → Hp → VK → Prop}
end
section
variable {X : Cx} {W : WX} {o e : Expr} {es : List Expr} {fo : Sx} {fa : Sm (List Va)} {name : Str} {apos cpos : Pos} {id : String} {k : Va → List Va → Hs → Rs Va}
end
end Fw

set_option Elab.async false
set_option linter.all false
set_option maxRecDepth 100000
set_option maxHeartbeats 2000000
set_option autoImplicit false
namespace Fw
open PySem PySem.Spec L2
open PyProof.Rows hiding St
section
variable {prog : Program} {w : World} {A : Around} {E : Value → Shared → Prop} {s : Shared}
end
end Fw

set_option Elab.async false
set_option linter.all false
set_option maxRecDepth 100000
set_option maxHeartbeats 2000000
set_option autoImplicit false
namespace Pg
open PySem PySem.Spec L2 Fw 
open PyProof.Rows hiding St
def b_is_within : Ss :=
  (sRet (sAndV (s2 (kIs false) (sBlt kTyp (sCons (sVar 0) sNil)) (sK (.ty "int"))) (sChn kLe kLe (sVar 1) (sVar 0) (sVar 2))))
abbrev R_is_within : Fn := runB 3 b_is_within
def G_is_within : Fn := pureF R_is_within
def b_is_shuffle : Ss :=
  (sRet (sAndV (s2 (kIs false) (sBlt kTyp (sCons (sVar 0) sNil)) (sK (.ty "str"))) (s2 (kIn false) (sVar 0) (sK (.tpw [Va.str [111, 117, 116], Va.str [105, 110], Va.str [102, 111, 108, 100]])))))
abbrev R_is_shuffle : Fn := runB 1 b_is_shuffle
def G_is_shuffle : Fn := pureF R_is_shuffle
def b_need_number : Ss :=
  (sIf (sNot (sTru (sCall G_is_within 3 [0, 1, 2] (sCons (sVar 0) (sCons (sVar 1) (sCons (sVar 2) sNil))))))
  never
  skip)
abbrev R_need_number : Fn := runB 3 b_need_number
def G_need_number : Fn := pureF R_need_number
def b_need_shuffle : Ss :=
  (sIf (sNot (sTru (sCall G_is_shuffle 1 [0] (sCons (sVar 0) sNil))))
  never
  skip)
abbrev R_need_shuffle : Fn := runB 1 b_need_shuffle
def G_need_shuffle : Fn := pureF R_need_shuffle
def b_is_size : Ss :=
  (sRet (sAndV (sCall G_is_within 3 [0, 1, 2] (sCons (sVar 0) (sCons (sK (.int 2)) (sCons (sK (.int 1000000)) sNil)))) (s2 kEq (s2 kMod (sVar 0) (sK (.int 2))) (sK (.int 0)))))
abbrev R_is_size : Fn := runB 1 b_is_size
def G_is_size : Fn := pureF R_is_size
def b_need_size : Ss :=
  (sIf (sNot (sTru (sCall G_is_size 1 [0] (sCons (sVar 0) sNil))))
  never
  skip)
abbrev R_need_size : Fn := runB 1 b_need_size
def G_need_size : Fn := pureF R_need_size
end Pg

set_option autoImplicit false
namespace Dw
/-- in how many ways a row ends that has so many feet left and stands so high -/
def W : Nat → Nat → Nat
  | 0, 0 => 1
  | 0, _ + 1 => 0
  | l + 1, 0 => W l 1
  | l + 1, h + 1 => W l (h + 2) + W l h
def D : Nat → List Nat → Prop
  | h, [] => h = 0
  | h, c :: s => (c = 40 ∧ D (h + 1) s) ∨ (c = 41 ∧ ∃ g, h = g + 1 ∧ D g s)
/-- all of them in their order -/
def all : Nat → Nat → List (List Nat)
  | 0, 0 => [[]]
  | 0, _ + 1 => []
  | l + 1, 0 => (all l 1).map (40 :: ·)
  | l + 1, h + 1 => (all l (h + 2)).map (40 :: ·) ++ (all l h).map (41 :: ·)
end Dw

set_option Elab.async false
set_option linter.all false
set_option autoImplicit false
namespace Fw
open PySem PySem.Spec L2
open PyProof.Rows hiding St
section
variable {α β : Type} (e : En) (h : Hs)
/-- onward from a run's answer -/
def fwd (r : Rs α) (k : α → Hs → Rs β) : Rs β := match r with
  | .ok x h' => k x h'
  | .ex x h' => .ex x h'
  | .bad => .bad
def fwdS (r : Rs α) (e : En) (k : α → Hs → Rt) : Rt := match r with
  | .ok x h' => k x h'
  | .ex x h' => .ex x e h'
  | .bad => .bad
def thn (r : Rt) (k : En → Hs → Rt) : Rt := match r with
  | .nx e' h' => k e' h'
  | r => r
@[simp] theorem fwd_ok (x : α) (k : α → Hs → Rs β) : fwd (.ok x h) k = k x h := (rfl)
@[simp] theorem fwdS_ok (x : α) (k : α → Hs → Rt) : fwdS (.ok x h) e k = k x h := (rfl)
@[simp] theorem thn_nx (k : En → Hs → Rt) : thn (.nx e h) k = k e h := (rfl)
@[simp] theorem thn_rt (x : Va) (k : En → Hs → Rt) : thn (.rt x h) k = .rt x h := (rfl)
@[simp] theorem bnd_ap (f : Sm α) (k : α → Sm β) : bnd f k e h = fwd (f e h) fun x h' => k x e h' := (rfl)
@[simp] theorem bnS_ap (f : Sm α) (k : α → Ss) : bnS f k e h = fwdS (f e h) e fun x h' => k x e h' := (rfl)
@[simp] theorem seq_ap (f g : Ss) : seq f g e h = thn (f e h) fun e' h' => g e' h' := by unfold seq thn; split <;> simp_all
@[simp] theorem vl_ap (r : Hs → Rs α) : vl r e h = r h := (rfl)
@[simp] theorem s2_ap (k : Va → Va → Hs → Rs Va) (a b : Sx) : s2 k a b e h = fwd (a e h) fun x h1 => fwd (b e h1) fun y h2 => k x y h2 := (rfl)
@[simp] theorem s1_ap (k : Va → Hs → Rs Va) (a : Sx) : s1 k a e h = fwd (a e h) fun x h1 => k x h1 := (rfl)
@[simp] theorem sK_ap (x : Va) : sK x e h = .ok x h := (rfl)
theorem sVar_ap {i : Nat} {x : Va} (q : e[i]? = some (some x)) : sVar i e h = .ok x h := by simp only [sVar, q]
@[simp] theorem sV0 (x : Va) (r : En) : sVar 0 (some x :: r) h = .ok x h := (rfl)
@[simp] theorem sV1 (a : Option Va) (x : Va) (r : En) : sVar 1 (a :: some x :: r) h = .ok x h := (rfl)
@[simp] theorem sV2 (a b : Option Va) (x : Va) (r : En) : sVar 2 (a :: b :: some x :: r) h = .ok x h := (rfl)
@[simp] theorem sV3 (a b c : Option Va) (x : Va) (r : En) : sVar 3 (a :: b :: c :: some x :: r) h = .ok x h := (rfl)
@[simp] theorem sV4 (a b c d : Option Va) (x : Va) (r : En) : sVar 4 (a :: b :: c :: d :: some x :: r) h = .ok x h := (rfl)
@[simp] theorem sV5 (a b c d f : Option Va) (x : Va) (r : En) : sVar 5 (a :: b :: c :: d :: f :: some x :: r) h = .ok x h := (rfl)
@[simp] theorem sV6 (a b c d f g : Option Va) (x : Va) (r : En) : sVar 6 (a :: b :: c :: d :: f :: g :: some x :: r) h = .ok x h := (rfl)
@[simp] theorem sV7 (a b c d f g j : Option Va) (x : Va) (r : En) : sVar 7 (a :: b :: c :: d :: f :: g :: j :: some x :: r) h = .ok x h := (rfl)
@[simp] theorem sNil_ap : sNil e h = .ok [] h := (rfl)
@[simp] theorem sCons_ap (a : Sx) (r : Sm (List Va)) : sCons a r e h = fwd (a e h) fun x h1 => fwd (r e h1) fun xs h2 => .ok (x :: xs) h2 := (rfl)
@[simp] theorem sSet_ap (i : Nat) (f : Sx) : sSet i f e h = fwdS (f e h) e fun x h' => .nx (e.set i (some x)) h' := (rfl)
@[simp] theorem sAug_ap (k : Va → Va → Hs → Rs Va) (i : Nat) (f : Sx) : sAug k i f e h = fwdS (s2 k (sVar i) f e h) e fun x h' => .nx (e.set i (some x)) h' := (rfl)
@[simp] theorem sRet_ap (f : Sx) : sRet f e h = fwdS (f e h) e fun x h' => .rt x h' := (rfl)
@[simp] theorem sDrop_ap (f : Sx) : sDrop f e h = fwdS (f e h) e fun _ h' => .nx e h' := (rfl)
@[simp] theorem skip_ap : skip e h = .nx e h := (rfl)
@[simp] theorem sIf_ap (t : Sm Bool) (a b : Ss) : sIf t a b e h = fwdS (t e h) e fun c h' => if c = true then a e h' else b e h' := by
  unfold sIf; rw [bnS_ap]; congr; funext c h'; split <;> rfl
@[simp] theorem sBl_ap (f : Sx) : sBl f e h = fwd (f e h) fun x h' => match asB x with | some b => .ok b h' | none => .bad := (rfl)
@[simp] theorem sTru_ap (f : Sx) : sTru f e h = fwd (f e h) fun x h' => match trA x h' with | some b => .ok b h' | none => .bad := (rfl)
@[simp] theorem sNot_ap (t : Sm Bool) : sNot t e h = fwd (t e h) fun b h' => .ok (!b) h' := (rfl)
@[simp] theorem sAnd_ap (t u : Sm Bool) : sAnd t u e h = fwd (t e h) fun b h' => if b = true then u e h' else .ok false h' := by
  unfold sAnd; rw [bnd_ap]; congr; funext c h'; split <;> rfl
@[simp] theorem sOr_ap (t u : Sm Bool) : sOr t u e h = fwd (t e h) fun b h' => if b = true then .ok true h' else u e h' := by
  unfold sOr; rw [bnd_ap]; congr; funext c h'; split <;> rfl
@[simp] theorem sIte_ap (t : Sm Bool) (a b : Sx) : sIte t a b e h = fwd (t e h) fun c h' => if c = true then a e h' else b e h' := by
  unfold sIte; rw [bnd_ap]; congr; funext c h'; split <;> rfl
@[simp] theorem byB_t {f g : Sm α} : byB (some true) f g = f := (rfl)
@[simp] theorem byB_f {f g : Sm α} : byB (some false) f g = g := (rfl)
@[simp] theorem sAndV_ap (a b : Sx) : sAndV a b e h = fwd (a e h) fun x h' => byB (asB x) b (sK (.bl false)) e h' := (rfl)
@[simp] theorem sOrV_ap (a b : Sx) : sOrV a b e h = fwd (a e h) fun x h' => byB (asB x) (sK (.bl true)) b e h' := (rfl)
@[simp] theorem sBlt_ap (k : List Va → Hs → Rs Va) (f : Sm (List Va)) : sBlt k f e h = fwd (f e h) fun xs h' => k xs h' := (rfl)
@[simp] theorem sCall_ap (F : Fn) (n : Nat) (π : List Nat) (f : Sm (List Va)) : sCall F n π f e h = fwd (f e h) fun xs h' => if xs.length = n then F (π.filterMap fun j => xs[j]?) h' else .bad := by
  unfold sCall; rw [bnd_ap]; congr; funext c h'; split <;> rfl
@[simp] theorem sCallK_ap (F : Fn) (n m : Nat) (π : List Nat) (f g : Sm (List Va)) : sCallK F n m π f g e h = fwd (f e h) fun xs h1 => fwd (g e h1) fun zs h2 => if xs.length = n ∧ zs.length = m then F (π.filterMap fun j => (xs ++ zs)[j]?) h2 else .bad := by
  unfold sCallK; rw [bnd_ap]; congr; funext c h'; rw [bnd_ap]; congr; funext c h'; split <;> rfl
@[simp] theorem sTup_ap (a : Sm (List Va)) : sTup a e h = fwd (a e h) fun xs h' => if xs.length ≤ 16777216 then .ok (.tup xs) h' else .bad := (rfl)
@[simp] theorem sLst_ap (a : Sm (List Va)) : sLst a e h = fwd (a e h) fun xs h' => newL xs h' := (rfl)
@[simp] theorem sAsg_ap (f : Sx) (g : Tg) : sAsg f g e h = fwdS (f e h) e fun x h' => match g x e h' with | .ok e' h2 => .nx e' h2 | _ => .bad := (rfl)
@[simp] theorem sPar_ap (is : List Nat) (f : Sm (List Va)) : sPar is f e h = fwdS (f e h) e fun xs h' => match setAll is xs e with | some e' => .nx e' h' | none => .bad := (rfl)
@[simp] theorem sFor_ap (f : Sit) (g : Tg) (b : Ss) : sFor f g b e h = fwdS (f e h) e fun s h' => loop s.1 (stp g b) s.2 0 e h' := (rfl)
@[simp] theorem sItr_ap (f : Sx) : sItr f e h = fwd (f e h) fun x h' => match itV x h' with | some s => .ok s h' | none => .bad := (rfl)
@[simp] theorem sLc_ap (f : Sit) (g : Tg) (t : Sm Bool) (el : Sx) (own : List Nat) : sLc f g t el own e h = fwd (f e h) fun s h' => lst_ [] (lcl s.1 g t el s.2 0 (wipeE e own) h') := (rfl)
@[simp] theorem sMth_ap (T : String) (k : Va → List Va → Hs → Rs Va) (o : Sx) (f : Sm (List Va)) : sMth T k o f e h = fwd (o e h) fun x h' => if tyA T x h' = true then fwd (f e h') (fun xs h2 => k x xs h2) else .bad := by
  unfold sMth; rw [bnd_ap]; rfl
theorem sRg1_int (f : Sm (List Va)) : sRg1 f e h = fwd (f e h) fun xs h' => match xs with | [.int j] => if -(2 ^ 62) ≤ j ∧ j < 2 ^ 62 then .ok (srcR 0 j.toNat, j.toNat) h' else .bad | _ => .bad := by
  unfold sRg1; rw [bnd_ap]; all_goals congr
end
/-- the answer of a body's end -/
def fin (r : Rt) : Rs Va := match r with
  | .nx _ h' => .ok .non h'
  | .rt v h' => .ok v h'
  | .ex x _ h' => .ex x h'
  | _ => .bad
@[simp] theorem fin_rt (x : Va) (h : Hs) : fin (.rt x h) = .ok x h := (rfl)
@[simp] theorem fin_nx (e : En) (h : Hs) : fin (.nx e h) = .ok .non h := (rfl)
theorem runB_ap (n : Nat) (b : Ss) (xs : List Va) (h : Hs) : runB n b xs h = fin (b (xs.map some ++ List.replicate (n - xs.length) none) h) := (rfl)
@[simp] theorem sChn_ap (k k' : Va → Va → Hs → Rs Va) (a b c : Sx) (e : En) (h : Hs) : sChn k k' a b c e h = fwd (a e h) fun x h1 => fwd (b e h1) fun y h2 => fwd (k x y h2) fun z h3 => byB (asB z) (bnd c fun w => vl (k' y w)) (sK (.bl false)) e h3 := (rfl)
/-- a loop by what holds before each turn -/
theorem loop_inv {s : Src} {b : Va → Ss} {n : Nat} (I : Nat → En → Hs → Prop) (st : ∀ i e h, i < n → I i e h → ∃ x e' h', s i h = some (some x) ∧ b x e h = .nx e' h' ∧ I (i + 1) e' h') (en : ∀ e h, I n e h → s n h = some none) {e : En} {h : Hs} (h0 : I 0 e h) :
    ∃ e' h', loop s b n 0 e h = .nx e' h' ∧ I n e' h' := by
  have go : ∀ k i e h, i + k = n → I i e h → ∃ e' h', loop s b k i e h = .nx e' h' ∧ I n e' h' := by
    intro k
    induction k with
    | zero =>
      intro i e h q hI
      have : i = n := by omega
      subst this
      exact ⟨e, h, by simp only [loop, en e h hI], hI⟩
    | succ k ih =>
      intro i e h q hI
      obtain ⟨x, e1, h1, a1, a2, a3⟩ := st i e h (by omega) hI
      obtain ⟨e2, h2, b1, b2⟩ := ih (i + 1) e1 h1 (by omega) a3
      refine ⟨e2, h2, ?_, b2⟩
      simp only [loop, a1, a2, aft]
      exact b1
  exact go n 0 e h (by omega) h0
theorem loop_gen {s : Src} {b : Va → Ss} {n : Nat} {e : En} {h : Hs} {L : Rt} (hL : loop s b n 0 e h = L) (I : Nat → En → Hs → Prop) (h0 : I 0 e h) (st : ∀ i e h, i < n → I i e h → ∃ x e' h', s i h = some (some x) ∧ b x e h = .nx e' h' ∧ I (i + 1) e' h') (en : ∀ e h, I n e h → s n h = some none) :
    ∃ e' h', L = .nx e' h' ∧ I n e' h' := by
  obtain ⟨e', h', a, b⟩ := loop_inv I st en h0
  exact ⟨e', h', hL ▸ a, b⟩
theorem mapO_some {α β γ : Type} {f : α → Option β} {g : γ → α} {k : γ → β} (q : ∀ x, f (g x) = some (k x)) : ∀ xs : List γ, mapO f (xs.map g) = some (xs.map k)
  | [] => rfl
  | x :: xs => by simp only [List.map_cons, mapO, q, mapO_some q xs]
theorem rg1_ok {f : Sm (List Va)} {e : En} {h h1 : Hs} {j : Nat} (q : f e h = .ok [.int (j : Nat)] h1) (l : j ≤ 1000000) : sRg1 f e h = .ok (srcR 0 j, j) h1 := by
  rw [sRg1_int, q, fwd_ok]
  simp only []
  rw [if_pos ⟨by omega, by omega⟩, Int.toNat_natCast]
/-- the same for the turns of a display's loop -/
theorem lcl_inv {s : Src} {g : Tg} {t : Sm Bool} {el : Sx} {n : Nat} {e : En} (ys : List Va) (hn : ys.length = n) (I : Nat → Hs → Prop) (st : ∀ i h, i < n → I i h → ∃ x e' h1 h2 h3 y, s i h = some (some x) ∧ g x e h = .ok e' h1 ∧ t e' h1 = .ok true h2 ∧ el e' h2 = .ok y h3 ∧ ys[i]? = some y ∧ I (i + 1) h3) (en : ∀ h, I n h → s n h = some none) {h : Hs} (h0 : I 0 h) :
    ∃ h', lcl s g t el n 0 e h = .ok ys h' ∧ I n h' := by
  have go : ∀ k i h, i + k = n → I i h → ∃ h', lcl s g t el k i e h = .ok (ys.drop i) h' ∧ I n h' := by
    intro k
    induction k with
    | zero =>
      intro i h q hI
      have : i = n := by omega
      subst this
      refine ⟨h, ?_, hI⟩
      simp only [lcl, en h hI]
      rw [List.drop_of_length_le (by omega)]
    | succ k ih =>
      intro i h q hI
      obtain ⟨x, e', h1, h2, h3, y, a1, a2, a3, a4, a5, a6⟩ := st i h (by omega) hI
      obtain ⟨h4, b1, b2⟩ := ih (i + 1) h3 (by omega) a6
      refine ⟨h4, ?_, b2⟩
      simp only [lcl, a1, a2, a3, a4, b1]
      obtain ⟨hl, e5⟩ := List.getElem?_eq_some_iff.mp a5
      rw [List.drop_eq_getElem_cons hl, e5]
  obtain ⟨h', a, b⟩ := go n 0 h (by omega) h0
  exact ⟨h', by simpa using a, b⟩
end Fw

set_option Elab.async false
set_option linter.all false
set_option autoImplicit false
namespace Fw
open PySem PySem.Spec L2
open PyProof.Rows hiding St
@[simp] theorem ngB_f (b : Bool) : ngB false b = b := (rfl)
@[simp] theorem ngB_t (b : Bool) : ngB true b = !b := (rfl)
end Fw
namespace Fw
open PySem PySem.Spec L2
open PyProof.Rows hiding St
end Fw

set_option Elab.async false
set_option linter.all false
set_option maxRecDepth 100000
set_option maxHeartbeats 4000000
set_option autoImplicit false
namespace Pg
open PySem PySem.Spec L2 Fw
open PyProof.Rows hiding St
theorem _root_.Fw.graft_lf {x : Va} {h h' : Hs} (q : lf x = true) : graft h (.ok x h') = .ok x h := by simp only [graft, q, if_true]
theorem _root_.Fw.pure_of {F : Fn} {xs : List Va} {h h' : Hs} {x : Va} (hx : lfL xs = true) (q : F xs [] = .ok x h') (l : lf x = true) : pureF F xs h = .ok x h := by
  unfold pureF
  rw [if_pos hx, q, graft_lf l]
theorem is_within_ok {i a b : Int} {h : Hs} (h1 : a ≤ i) (h2 : i ≤ b) : G_is_within [.int i, .int a, .int b] h = .ok (.bl true) h := by
  refine pure_of rfl (h' := []) ?_ rfl
  simp [runB_ap, b_is_within, h1, kLe, sVar_ap, h2]
theorem need_number_ok {i a b : Int} {h : Hs} (h1 : a ≤ i) (h2 : i ≤ b) : G_need_number [.int i, .int a, .int b] h = .ok .non h := by
  refine pure_of rfl (h' := []) ?_ rfl
  simp [runB_ap, b_need_number, is_within_ok h1 h2]

def _root_.Fw.isI (r : Rs Va) (n : Int) : Bool := match r with
  | .ok (.int i) _ => decide (i = n)
  | _ => false
theorem _root_.Fw.isI_of {r : Rs Va} {n : Int} (q : isI r n = true) : ∃ h, r = .ok (.int n) h := by
  unfold isI at q
  split at q
  · rename_i i h
    exact ⟨h, by rw [of_decide_eq_true q]⟩
  · cases q
theorem _root_.Fw.drop_cons {α : Type} {xs : List α} {i : Nat} (q : i < xs.length) : ∃ x, xs[i]? = some x ∧ xs.drop i = x :: xs.drop (i + 1) := ⟨xs[i], List.getElem?_eq_getElem q, List.drop_eq_getElem_cons q⟩
theorem _root_.Fw.new_ok {xs : List Va} {h : Hs} (l : xs.length ≤ 16777216) : newL xs h = .ok (.loc h.length) (h ++ [.lst xs]) := by rw [newL, if_pos l]
theorem _root_.Fw.all_true {h : Hs} {n : Nat} {ys : List Va} (q : h[n]? = some (.lst ys)) (t : ∀ y ∈ ys, y = .bl true) : kAll [.loc n] h = .ok (.bl true) h := by
  have e : ys = (List.replicate ys.length true).map Va.bl := by
    apply List.ext_getElem (by simp)
    intro i h1 h2
    simp [t _ (List.getElem_mem h1)]
  have r : (lsA (.loc n) h).bind (mapO asB) = some (List.replicate ys.length true) := by
    simp only [lsA, q, Option.bind_some]
    rw [e]
    simpa using mapO_some (f := asB) (g := Va.bl) (k := id) (fun x => rfl) (List.replicate ys.length true)
  simp only [kAll, on1, r]
  simp
end Pg


set_option Elab.async false
set_option linter.all false
set_option maxRecDepth 100000
set_option maxHeartbeats 2000000
set_option autoImplicit false
namespace Mg
open PySem PySem.Spec L2 Fw Pg
open PyProof.Rows hiding St
def b__law_sip : Ss :=
  (seq (sAsg (s2 kAdd (s2 kIx (sVar 0) (sK (.int 2))) (sK (.int 1))) (gSb (sVar 0) (sK (.int 2))))
  (seq (sSet 2 (sBlt kInt (sCons (s2 kIx (sVar 0) (sK (.int 1))) sNil)))
  (seq (sAsg (s2 kMod (sBlt kInt (sCons (s2 kAdd (s2 kAdd (s2 kMul (sVar 2) (s2 kAdd (s2 kMod (sBlt kInt (sCons (sVar 2) sNil)) (sK (.int 24001))) (sK (.int 19001)))) (s2 kMul (sK (.int 58013)) (s2 kIx (sVar 0) (sK (.int 2))))) (sK (.int 73))) sNil)) (sK (.int 2147482819))) (gSb (sVar 0) (sK (.int 1))))
  (seq (sIf (sBl (s2 kGt (s2 kIx (sVar 0) (sK (.int 0))) (sK (.int 0))))
  (seq (sAsg (sBlt kDvm (sCons (s2 kIx (sVar 0) (sK (.int 0))) (sCons (sVar 1) sNil))) (gTp 2 (gsCons (gSb (sVar 0) (sK (.int 0))) (gsCons (gNm 3) gsNil))))
  (sRet (sVar 3)))
  skip)
  (sRet (s2 kMod (sBlt kInt (sCons (s2 kFdv (s2 kIx (sVar 0) (sK (.int 1))) (sK (.int 157))) sNil)) (sVar 1)))))))
abbrev R__law_sip : Fn := runB 4 b__law_sip
@[irreducible] def G__law_sip : Fn := R__law_sip
def b__law_of : Ss :=
  (sRet (s2 kIx (sVar 1) (sCall G__law_sip 2 [0, 1] (sCons (sVar 0) (sCons (sBlt kLen (sCons (sVar 1) sNil)) sNil)))))
abbrev R__law_of : Fn := runB 2 b__law_of
@[irreducible] def G__law_of : Fn := R__law_of
end Mg

set_option Elab.async false
set_option linter.all false
set_option maxRecDepth 100000
set_option maxHeartbeats 4000000
set_option autoImplicit false
namespace Fw
open PySem PySem.Spec L2
open PyProof.Rows hiding St
theorem atI_nat {α : Type} {xs : List α} {i : Nat} {x : α} (e : xs[i]? = some x) : atI xs (i : Int) = some x := by
  have hl := (List.getElem?_eq_some_iff.mp e).1
  simp only [atI, ixN]
  rw [if_pos (by omega), if_pos (by omega)]
  simpa using e
theorem ix_loc {h : Hs} {n i : Nat} {xs : List Va} {x : Va} (q : h[n]? = some (.lst xs)) (e : xs[i]? = some x) : kIx (.loc n) (.int (i : Int)) h = .ok x h := by
  simp only [kIx, gIx, q, atI_nat e]
theorem ix_loc0 {h : Hs} {n : Nat} {x : Va} {r : List Va} (q : h[n]? = some (.lst (x :: r))) : kIx (.loc n) (.int 0) h = .ok x h := ix_loc (i := 0) q rfl
theorem ix_loc1 {h : Hs} {n : Nat} {a x : Va} {r : List Va} (q : h[n]? = some (.lst (a :: x :: r))) : kIx (.loc n) (.int 1) h = .ok x h := ix_loc (i := 1) q rfl
theorem ix_loc2 {h : Hs} {n : Nat} {a b x : Va} {r : List Va} (q : h[n]? = some (.lst (a :: b :: x :: r))) : kIx (.loc n) (.int 2) h = .ok x h := ix_loc (i := 2) q rfl
theorem ks_nat {h : Hs} {n i : Nat} {xs : List Va} {x : Va} (q : h[n]? = some (.lst xs)) (l : i < xs.length) : kSet (.loc n) (.int (i : Int)) x h = some (h.set n (.lst (xs.set i x))) := by
  simp only [kSet, q, ixN]
  rw [if_pos (by omega), if_pos (by omega)]
  simp
theorem ks3_0 {h : Hs} {n : Nat} {a b c x : Va} (q : h[n]? = some (.lst [a, b, c])) : kSet (.loc n) (.int 0) x h = some (h.set n (.lst [x, b, c])) := ks_nat (i := 0) q (by simp)
theorem ks3_1 {h : Hs} {n : Nat} {a b c x : Va} (q : h[n]? = some (.lst [a, b, c])) : kSet (.loc n) (.int 1) x h = some (h.set n (.lst [a, x, c])) := ks_nat (i := 1) q (by simp)
theorem ks3_2 {h : Hs} {n : Nat} {a b c x : Va} (q : h[n]? = some (.lst [a, b, c])) : kSet (.loc n) (.int 2) x h = some (h.set n (.lst [a, b, x])) := ks_nat (i := 2) q (by simp)
theorem gSb_ap (fo fi : Sx) (x : Va) (e : En) (h : Hs) : gSb fo fi x e h = match fwd (fo e h) (fun o h1 => fwd (fi e h1) fun i h2 => match kSet o i x h2 with | some h3 => Rs.ok () h3 | none => .bad) with | .ok _ h' => .ok e h' | _ => .bad := rfl
def Mug (h : Hs) (m : Nat) : Prop := ∃ a b c : Int, h[m]? = some (.lst [.int a, .int b, .int c])
structure Kp (m : Nat) (h h' : Hs) : Prop where
  mug : Mug h' m
  old : ∀ (i : Nat) (o : Ob), i ≠ m → h[i]? = some o → h'[i]? = some o
theorem Kp.refl {m : Nat} {h : Hs} (q : Mug h m) : Kp m h h := ⟨q, fun _ _ _ e => e⟩
theorem Kp.trans {m : Nat} {h h1 h2 : Hs} (a : Kp m h h1) (b : Kp m h1 h2) : Kp m h h2 := ⟨b.mug, fun i o n e => b.old i o n (a.old i o n e)⟩
theorem Kp.app {m : Nat} {h : Hs} (q : Mug h m) (r : Hs) : Kp m h (h ++ r) := by
  have go : ∀ (i : Nat) (o : Ob), h[i]? = some o → (h ++ r)[i]? = some o := fun i o e => by
    rw [List.getElem?_append_left (List.getElem?_eq_some_iff.mp e).1]
    exact e
  obtain ⟨a, b, c, e⟩ := q
  exact ⟨⟨a, b, c, go _ _ e⟩, fun i o _ => go i o⟩
theorem Kp.set {m : Nat} {h : Hs} (q : Mug h m) (a b c : Int) : Kp m h (h.set m (.lst [.int a, .int b, .int c])) := by
  obtain ⟨_, _, _, e⟩ := q
  have hl := (List.getElem?_eq_some_iff.mp e).1
  exact ⟨⟨a, b, c, by simp [hl]⟩, fun i o n e => by rw [List.getElem?_set_ne (Ne.symm n)]; exact e⟩
end Fw
namespace Mg
open PySem PySem.Spec L2 Fw Pg
open PyProof.Rows hiding St
theorem q__law_sip : G__law_sip = R__law_sip := by unfold G__law_sip; rfl
theorem q__law_of : G__law_of = R__law_of := by unfold G__law_of; rfl
theorem sip_ok {h : Hs} {m top : Nat} (q : Mug h m) (t0 : 0 < top) (t1 : top < 1073741824) : ∃ (r : Nat) (h' : Hs), G__law_sip [.loc m, .int top] h = .ok (.int r) h' ∧ r < top ∧ Kp m h h' := by
  rw [q__law_sip]
  have t2 : (0 : Int) < top := by omega
  have t3 : (top : Int) < 1073741824 := by omega
  obtain ⟨a, b, c, e⟩ := q
  have hl := (List.getElem?_eq_some_iff.mp e).1
  have fin : ∀ (x : Int) (a b c : Int), ∃ (r : Nat) (h' : Hs), (x % top = (r : Int) ∧ h.set m (.lst [.int a, .int b, .int c]) = h') ∧ r < top ∧ Kp m h h' := fun x a' b' c' => by
    have h1 := Int.emod_nonneg x (b := (top : Int)) (by omega)
    have h2 := Int.emod_lt_of_pos x t2
    exact ⟨(x % top).toNat, _, ⟨(Int.toNat_of_nonneg h1).symm, rfl⟩, by omega, Kp.set ⟨a, b, c, e⟩ a' b' c'⟩
  have s2 : ∀ x : Ob, (h.set m x)[m]? = some x := fun x => by simp [hl]
  have i0 : ∀ a b c : Va, kIx (.loc m) (.int 0) (h.set m (.lst [a, b, c])) = .ok a (h.set m (.lst [a, b, c])) := fun a b c => ix_loc0 (s2 _)
  have i1 : ∀ a b c : Va, kIx (.loc m) (.int 1) (h.set m (.lst [a, b, c])) = .ok b (h.set m (.lst [a, b, c])) := fun a b c => ix_loc1 (s2 _)
  have i2 : ∀ a b c : Va, kIx (.loc m) (.int 2) (h.set m (.lst [a, b, c])) = .ok c (h.set m (.lst [a, b, c])) := fun a b c => ix_loc2 (s2 _)
  have k0 : ∀ a b c x : Va, kSet (.loc m) (.int 0) x (h.set m (.lst [a, b, c])) = some (h.set m (.lst [x, b, c])) := fun a b c x => by rw [ks3_0 (s2 _), List.set_set]
  have k1 : ∀ a b c x : Va, kSet (.loc m) (.int 1) x (h.set m (.lst [a, b, c])) = some (h.set m (.lst [a, x, c])) := fun a b c x => by rw [ks3_1 (s2 _), List.set_set]
  have k2 : ∀ x : Va, kSet (.loc m) (.int 2) x h = some (h.set m (.lst [.int a, .int b, x])) := fun x => ks3_2 e
  have lt : ∀ x : Int, 0 ≤ x % 24001 ∧ x % 24001 < 24001 := fun x => ⟨Int.emod_nonneg _ (by decide), Int.emod_lt_of_pos _ (by decide)⟩
  have m1 : ∀ x y h, kMul (.int x) (.int (y % 24001 + 19001)) h = .ok (.int (x * (y % 24001 + 19001))) h := fun x y h => by
    have := lt y
    simp only [kMul]
    rw [if_pos (.inr (by omega))]
  have m2 : ∀ y h, kMul (.int 58013) (.int y) h = .ok (.int (58013 * y)) h := fun y h => by simp [kMul]
  by_cases a0 : 0 < a
  · simp [runB_ap, b__law_sip, gSb_ap, ix_loc2 e, i0, i1, i2, k0, k1, k2, m1, m2, kInt, kMod, kFdv, kDvm, a0, t0, t1, t2, t3]
    exact fin _ _ _ _
  · simp [runB_ap, b__law_sip, gSb_ap, ix_loc2 e, i0, i1, i2, k0, k1, k2, m1, m2, kInt, kMod, kFdv, kDvm, a0, t0, t1, t2, t3]
    exact fin _ _ _ _
theorem of_ok {h : Hs} {m r : Nat} {xs : List Va} (q : Mug h m) (hr : h[r]? = some (.lst xs)) (rm : r ≠ m) (x0 : 0 < xs.length) (x1 : xs.length < 1073741824) : ∃ (x : Va) (h' : Hs), G__law_of [.loc m, .loc r] h = .ok x h' ∧ x ∈ xs ∧ Kp m h h' := by
  obtain ⟨j, h', e, jl, k⟩ := sip_ok q x0 x1
  refine ⟨xs[j], h', ?_, List.getElem_mem _, k⟩
  rw [q__law_of]
  simp [runB_ap, b__law_of, lsA, hr, e, ix_loc (k.old r _ rm hr) (List.getElem?_eq_getElem jl)]
end Mg


set_option Elab.async false
set_option linter.all false
set_option maxRecDepth 100000
set_option maxHeartbeats 4000000
set_option autoImplicit false
namespace Fw
open PySem PySem.Spec L2
open PyProof.Rows hiding St
@[simp] theorem sNo_ap (e : En) (h : Hs) : sNo e h = .ok none h := (rfl)
@[simp] theorem sSo_ap (f : Sx) (e : En) (h : Hs) : sSo f e h = fwd (f e h) fun x h' => match x with | .int i => .ok (some i) h' | _ => .bad := (rfl)
@[simp] theorem sSl_ap (f : Sx) (lo hi : Sm (Option Int)) (e : En) (h : Hs) : sSl f lo hi e h = fwd (f e h) fun x h1 => fwd (lo e h1) fun l h2 => fwd (hi e h2) fun u h3 => kSl x l u h3 := (rfl)
theorem lfL_map {α : Type} {g : α → Va} (q : ∀ x, lf (g x) = true) : ∀ xs : List α, lfL (xs.map g) = true
  | [] => rfl
  | x :: xs => by simp only [List.map_cons, lfL, q, lfL_map q xs]; rfl
theorem pureL_of {F : Fn} {xs ys : List Va} {h h' : Hs} {m : Nat} (hx : lfL xs = true) (q : F xs [] = .ok (.loc m) h') (l : h'[m]? = some (.lst ys)) (ly : lfL ys = true) : pureF F xs h = .ok (.loc h.length) (h ++ [.lst ys]) := by
  unfold pureF
  rw [if_pos hx, q]
  simp only [graft, lf, l, ly, if_true]
  rfl
theorem cut_map {α : Type} (g : α → Va) (xs : List α) (lo hi : Option Int) : cutA (xs.map g) lo hi = (cutA xs lo hi).map g := by simp only [cutA, List.length_map, List.map_take, List.map_drop]
theorem cut_len {α : Type} (xs : List α) (lo hi : Option Int) : (cutA xs lo hi).length ≤ xs.length := by
  simp only [cutA, List.length_take, List.length_drop]
  omega
end Fw
namespace Mg
open PySem PySem.Spec L2 Fw Pg
open PyProof.Rows hiding St
end Mg


set_option Elab.async false
set_option linter.all false
set_option maxRecDepth 100000
set_option maxHeartbeats 4000000
set_option autoImplicit false
namespace Dw
def nx (r : Nat) (p : List Nat × Nat) : List (List Nat × Nat) := (if p.2 + 1 < r then [(p.1 ++ [40], p.2 + 1)] else []) ++ (if 0 < p.2 then [(p.1 ++ [41], p.2 - 1)] else [])
def P (N : Nat) : Nat → List (List Nat × Nat)
  | 0 => [([], 0)]
  | t + 1 => (P N t).flatMap (nx (N - t))
end Dw
namespace Pg
open PySem PySem.Spec L2 Fw
open PyProof.Rows hiding St
end Pg
namespace Mg
open PySem PySem.Spec L2 Fw Pg
open PyProof.Rows hiding St
end Mg


set_option Elab.async false
set_option linter.all false
set_option maxRecDepth 100000
set_option maxHeartbeats 4000000
set_option autoImplicit false
namespace Fw
open PySem PySem.Spec L2
open PyProof.Rows hiding St
end Fw


set_option autoImplicit false
namespace Dw
/-- an arch row: the first foot's arch over a, b behind it -/
inductive Fo where
  | nil | node (a b : Fo)
def sz : Fo → Nat
  | .nil => 0
  | .node a b => sz a + sz b + 2
def word : Fo → List Nat
  | .nil => []
  | .node a b => 40 :: (word a ++ 41 :: word b)
def app : Fo → Fo → Fo
  | .nil, g => g
  | .node a b, g => .node a (app b g)
theorem sz_app : ∀ f g, sz (app f g) = sz f + sz g
  | .nil, g => by simp [app, sz]
  | .node a b, g => by simp [app, sz, sz_app b g]; omega
/-- the mates, from foot p on -/
def M : Nat → Fo → List Nat
  | _, .nil => []
  | p, .node a b => (p + sz a + 1) :: (M (p + 1) a ++ p :: M (p + sz a + 2) b)
theorem M_len : ∀ f p, (M p f).length = sz f
  | .nil, _ => rfl
  | .node a b, p => by simp [M, sz, M_len a, M_len b]; omega
/-- the arches as they close -/
def Cl : Nat → Fo → List (Nat × Nat)
  | _, .nil => []
  | p, .node a b => Cl (p + 1) a ++ (p, p + sz a + 1) :: Cl (p + sz a + 2) b
theorem M_app : ∀ f g p, M p (app f g) = M p f ++ M (p + sz f) g
  | .nil, g, p => by simp [app, M, sz]
  | .node a b, g, p => by
    simp only [app, M, sz, M_app b g]
    simp
    congr 1
    omega
/-- the first foot becomes the last one -/
def tu : Fo → Fo
  | .nil => .nil
  | .node a b => app a (.node b .nil)
def sh : Fo → Nat
  | .nil => 0
  | .node .nil b => sh b + 1
  | .node (.node a c) b => sh (.node a c) + sh b
theorem sz_tu : ∀ f, sz (tu f) = sz f
  | .nil => rfl
  | .node a b => by simp [tu, sz_app, sz, Nat.add_assoc]
theorem M_up : ∀ f p d, M (p + d) f = (M p f).map (· + d)
  | .nil, p, d => rfl
  | .node a b, p, d => by
    have e1 : p + d + 1 = p + 1 + d := by omega
    have e2 : p + d + sz a + 2 = p + sz a + 2 + d := by omega
    simp only [M, List.map_cons, List.map_append]
    rw [e1, e2, M_up a, M_up b]
    congr 1
    omega
theorem M_in : ∀ f p m, m ∈ M p f → p ≤ m ∧ m < p + sz f
  | .nil, p, m, h => by simp [M] at h
  | .node a b, p, m, h => by
    unfold M at h
    rcases List.mem_cons.mp h with rfl | h
    · simp [sz]; omega
    · rcases List.mem_append.mp h with h | h
      · have := M_in a _ m h; simp [sz]; omega
      · rcases List.mem_cons.mp h with rfl | h
        · simp [sz]
        · have := M_in b _ m h; simp [sz]; omega
def sg : Nat → List Nat → List Nat
  | _, [] => []
  | p, m :: ms => (if p < m then 40 else 41) :: sg (p + 1) ms
theorem sg_app : ∀ xs ys p, sg p (xs ++ ys) = sg p xs ++ sg (p + xs.length) ys
  | [], ys, p => by simp [sg]
  | x :: xs, ys, p => by
    simp only [List.cons_append, sg, sg_app xs ys, List.length_cons]
    rw [show p + 1 + xs.length = p + (xs.length + 1) by omega]
theorem word_sg : ∀ f p, word f = sg p (M p f)
  | .nil, p => rfl
  | .node a b, p => by
    have e : p + 1 + sz a + 1 = p + sz a + 2 := by omega
    simp only [M, sg, sg_app, word, M_len]
    rw [if_pos (by omega), if_neg (by omega), e, ← word_sg a, ← word_sg b]
/-- one foot back round the circle of n -/
def bk (n x : Nat) : Nat := if x = 0 then n - 1 else x - 1
def rl : List Nat → List Nat
  | [] => []
  | x :: xs => xs ++ [x]
theorem M_tu (f : Fo) : M 0 (tu f) = (rl (M 0 f)).map (bk (sz f)) := by
  cases f with
  | nil => rfl
  | node a b =>
    have up : ∀ f p, (M (p + 1) f).map (bk (sz (.node a b))) = M p f := fun f p => by
      rw [M_up f p 1, List.map_map]
      conv => rhs; rw [← List.map_id (M p f)]
      refine List.map_congr_left fun x _ => ?_
      simp [bk]
    simp only [tu, M_app, M, rl, Nat.zero_add]
    rw [List.map_append, List.map_append, List.map_cons, up a 0, show sz a + 2 = sz a + 1 + 1 by omega, up b (sz a + 1)]
    simp [bk, sz]

theorem rl_map (g : Nat → Nat) : ∀ xs, rl (xs.map g) = (rl xs).map g
  | [] => rfl
  | x :: xs => by simp [rl]
def it {α : Type} (g : α → α) : Nat → α → α
  | 0, x => x
  | n + 1, x => it g n (g x)
theorem M_it : ∀ k f, M 0 (it tu k f) = (it rl k (M 0 f)).map (it (bk (sz f)) k)
  | 0, f => by simp [it]
  | k + 1, f => by
    have cm : ∀ k g xs, it rl k (xs.map g) = (it rl k xs).map g := by
      intro k
      induction k with
      | zero => intro g xs; rfl
      | succ k ih => intro g xs; rw [it, rl_map, ih]; rfl
    rw [it, M_it k, M_tu, sz_tu, cm, List.map_map]
    rfl
theorem rl_it : ∀ xs ys : List Nat, it rl xs.length (xs ++ ys) = ys ++ xs
  | [], ys => by simp [it]
  | x :: xs, ys => by
    rw [List.length_cons, it]
    show it rl xs.length (xs ++ ys ++ [x]) = _
    rw [List.append_assoc, rl_it xs (ys ++ [x])]
    simp
theorem bk_down {n : Nat} : ∀ k x, k ≤ x → it (bk n) k x = x - k
  | 0, x, _ => rfl
  | k + 1, x, h => by
    rw [it, show bk n x = x - 1 by unfold bk; rw [if_neg (by omega)], bk_down k (x - 1) (by omega)]
    omega
theorem it_add {α : Type} (g : α → α) : ∀ j k x, it g (j + k) x = it g k (it g j x)
  | 0, k, x => by rw [Nat.zero_add]; rfl
  | j + 1, k, x => by rw [show j + 1 + k = (j + k) + 1 by omega, it, it_add g j k]; rfl
theorem bk_all {n x : Nat} (h : x < n) : it (bk n) n x = x := by
  have e : n = x + (1 + (n - 1 - x)) := by omega
  conv => lhs; rw [show it (bk n) n x = it (bk n) (x + (1 + (n - 1 - x))) x from by rw [← e]]
  rw [it_add, bk_down x x (Nat.le_refl _), it_add, Nat.sub_self]
  show it (bk n) (n - 1 - x) (bk n 0) = x
  rw [show bk n 0 = n - 1 from rfl, bk_down _ _ (by omega)]
  omega
/-- as many turns as feet lead back -/
theorem turns (f : Fo) : word (it tu (sz f) f) = word f := by
  have e : M 0 (it tu (sz f) f) = M 0 f := by
    rw [M_it]
    have := rl_it (M 0 f) []
    rw [M_len, List.append_nil, List.nil_append] at this
    rw [this]
    conv => rhs; rw [← List.map_id (M 0 f)]
    refine List.map_congr_left fun x hx => ?_
    have := M_in f 0 x hx
    rw [bk_all (by omega)]
    rfl
  rw [word_sg _ 0, e, ← word_sg]
end Dw

set_option Elab.async false
set_option linter.all false
set_option maxRecDepth 100000
set_option maxHeartbeats 4000000
set_option autoImplicit false
namespace Fw
open PySem PySem.Spec L2
open PyProof.Rows hiding St
end Fw
namespace Dw
def cm (ms : List Nat) (o i : Nat) : List Nat := (ms.set i o).set o i
end Dw


set_option Elab.async false
set_option linter.all false
set_option maxRecDepth 100000
set_option maxHeartbeats 4000000
set_option autoImplicit false
namespace Pg
open PySem PySem.Spec L2 Fw
open PyProof.Rows hiding St
def vN (i : Nat) : Va := .int (i : Nat)
theorem flat_rep : ∀ (n : Nat) (x : Va), (List.replicate n [x]).flatten = List.replicate n x
  | 0, x => rfl
  | n + 1, x => by simp [List.replicate_succ, flat_rep n x]
end Pg


set_option Elab.async false
set_option linter.all false
set_option maxRecDepth 100000
set_option maxHeartbeats 4000000
set_option autoImplicit false
namespace Pg
open PySem PySem.Spec L2 Fw
open PyProof.Rows hiding St
end Pg
namespace Mg
open PySem PySem.Spec L2 Fw Pg
open PyProof.Rows hiding St
end Mg


set_option Elab.async false
set_option linter.all false
set_option maxRecDepth 100000
set_option maxHeartbeats 4000000
set_option autoImplicit false
namespace Fw
open PySem PySem.Spec L2
open PyProof.Rows hiding St
end Fw
namespace Dw
end Dw
namespace Pg
open PySem PySem.Spec L2 Fw
open PyProof.Rows hiding St
end Pg
namespace Mg
open PySem PySem.Spec L2 Fw Pg
open PyProof.Rows hiding St
end Mg
namespace Dw
/-- the greatest height along a word -/
def top : Nat → Nat → List Nat → Nat
  | _, g, [] => g
  | h, g, c :: s => if c = 40 then top (h + 1) (max g (h + 1)) s else top (h - 1) (max g (h - 1)) s
end Dw
namespace Pg
open PySem PySem.Spec L2 Fw
open PyProof.Rows hiding St
end Pg


set_option Elab.async false
set_option linter.all false
set_option maxRecDepth 100000
set_option maxHeartbeats 4000000
set_option autoImplicit false
namespace Fw
open PySem PySem.Spec L2
open PyProof.Rows hiding St
end Fw
namespace Pg
open PySem PySem.Spec L2 Fw
open PyProof.Rows hiding St
end Pg
namespace Dw
def tops : Fo → Nat
  | .nil => 0
  | .node _ b => tops b + 1
def bl : Fo → List (List Nat)
  | .nil => []
  | .node a b => word (.node a .nil) :: bl b
end Dw
namespace Pg
open PySem PySem.Spec L2 Fw
open PyProof.Rows hiding St
end Pg


set_option Elab.async false
set_option linter.all false
set_option maxRecDepth 100000
set_option maxHeartbeats 4000000
set_option autoImplicit false
namespace Dw
def c2 : List Nat → Nat
  | [] => 0
  | c :: r => (if c = 40 ∧ r.head? = some 41 then 1 else 0) + c2 r
end Dw
namespace Fw
open PySem PySem.Spec L2 PySem.StrLaws PySem.Builtin.Str
open PyProof.Rows hiding St
end Fw
namespace Pg
open PySem PySem.Spec L2 Fw
open PyProof.Rows hiding St
end Pg


set_option Elab.async false
set_option linter.all false
set_option maxRecDepth 100000
set_option maxHeartbeats 4000000
set_option autoImplicit false
namespace Fw
open PySem PySem.Spec L2
open PyProof.Rows hiding St
/-- data that can be laid, shown and compared: depth, a bound of its text -/
structure Bd (k n : Nat) (d : PyData) : Prop where
  dp : d.depth ≤ k
  cl : d.canLay0 = true
  sh : d.showable = true
  ln : d.shown.length ≤ n
theorem Bd.up {k n k' n' : Nat} {d : PyData} (b : Bd k n d) (h : k ≤ k') (h2 : n ≤ n') : Bd k' n' d := ⟨by have := b.dp; omega, b.cl, b.sh, by have := b.ln; omega⟩
theorem Bd.shp {k n : Nat} {d : PyData} (b : Bd k n d) (h : k ≤ 64) : SeqAt.shaped d = true := by
  unfold SeqAt.shaped
  rw [b.cl, Bool.true_and]
  exact decide_eq_true (by have := b.dp; omega)
theorem depthAll_le {k : Nat} : ∀ ds : List PyData, (∀ d ∈ ds, d.depth ≤ k) → PyData.depthAll ds ≤ k
  | [], _ => by simp [PyData.depthAll]
  | d :: ds, h => by
    have := depthAll_le ds fun x m => h x (List.mem_cons_of_mem _ m)
    have := h d List.mem_cons_self
    simp only [PyData.depthAll]
    omega
theorem canLayAll_of : ∀ ds : List PyData, (∀ d ∈ ds, d.canLay0 = true) → PyData.canLayAll0 ds = true
  | [], _ => by simp [PyData.canLayAll0]
  | d :: ds, h => by
    simp only [PyData.canLayAll0]
    rw [h d List.mem_cons_self, canLayAll_of ds fun x m => h x (List.mem_cons_of_mem _ m)]
    rfl
end Fw

set_option Elab.async false
set_option linter.all false
set_option maxRecDepth 100000
set_option maxHeartbeats 4000000
set_option autoImplicit false
namespace Fw
open PySem PySem.Spec L2
open PyProof.Rows hiding St
@[simp] theorem sV8 (a b c d f g j k : Option Va) (x : Va) (r : En) (h : Hs) : sVar 8 (a :: b :: c :: d :: f :: g :: j :: k :: some x :: r) h = .ok x h := (rfl)
@[simp] theorem sV9 (a b c d f g j k l : Option Va) (x : Va) (r : En) (h : Hs) : sVar 9 (a :: b :: c :: d :: f :: g :: j :: k :: l :: some x :: r) h = .ok x h := (rfl)
@[simp] theorem sV10 (a b c d f g j k l n : Option Va) (x : Va) (r : En) (h : Hs) : sVar 10 (a :: b :: c :: d :: f :: g :: j :: k :: l :: n :: some x :: r) h = .ok x h := (rfl)
@[simp] theorem sV11 (a b c d f g j k l n o : Option Va) (x : Va) (r : En) (h : Hs) : sVar 11 (a :: b :: c :: d :: f :: g :: j :: k :: l :: n :: o :: some x :: r) h = .ok x h := (rfl)
@[simp] theorem sV12 (a b c d f g j k l n o p : Option Va) (x : Va) (r : En) (h : Hs) : sVar 12 (a :: b :: c :: d :: f :: g :: j :: k :: l :: n :: o :: p :: some x :: r) h = .ok x h := (rfl)
@[simp] theorem sV13 (a b c d f g j k l n o p q : Option Va) (x : Va) (r : En) (h : Hs) : sVar 13 (a :: b :: c :: d :: f :: g :: j :: k :: l :: n :: o :: p :: q :: some x :: r) h = .ok x h := (rfl)
@[simp] theorem sV14 (a b c d f g j k l n o p q t : Option Va) (x : Va) (r : En) (h : Hs) : sVar 14 (a :: b :: c :: d :: f :: g :: j :: k :: l :: n :: o :: p :: q :: t :: some x :: r) h = .ok x h := (rfl)
theorem last_at (h : Hs) (o : Ob) : (h ++ [o])[h.length]? = some o := by simp
theorem Kp.new {m : Nat} {a h : Hs} (k : Kp m a h) (o : Ob) : Kp m a (h ++ [o]) := k.trans (.app k.mug [o])
theorem Kp.at {m : Nat} {h h' : Hs} (k : Kp m h h') {i : Nat} {o : Ob} (n : i ≠ m) (e : h[i]? = some o) : h'[i]? = some o := k.old i o n e
theorem Mug.ne {h : Hs} {m : Nat} (q : Mug h m) : h.length ≠ m := by
  obtain ⟨_, _, _, e⟩ := q
  have := (List.getElem?_eq_some_iff.mp e).1
  omega
end Fw
namespace Mg
open PySem PySem.Spec L2 Fw Pg
open PyProof.Rows hiding St
theorem pick_ok {h : Hs} {m : Nat} (q : Mug h m) (xs : List Nat) (h0 : 0 < xs.length) (h1 : xs.length < 100) (hx : ∀ x ∈ xs, x ≤ 12) : ∃ (n : Nat) (h' : Hs), G__law_of [.loc m, .loc h.length] (h ++ [.lst (xs.map fun i => Va.int (i : Nat))]) = .ok (.int (n : Nat)) h' ∧ n ≤ 12 ∧ n ∈ xs ∧ Kp m h h' := by
  have k1 : Kp m h (h ++ [.lst (xs.map fun i => Va.int (i : Nat))]) := .app q _
  obtain ⟨x, h', e1, e2, e3⟩ := of_ok k1.mug (last_at h _) q.ne (by simpa using h0) (by simp; omega)
  obtain ⟨n, n1, rfl⟩ := List.mem_map.mp e2
  exact ⟨n, h', e1, hx n n1, n1, k1.trans e3⟩
end Mg

set_option Elab.async false
set_option linter.all false
set_option maxRecDepth 100000
set_option maxHeartbeats 4000000
set_option autoImplicit false
namespace Dw
/-- n arches around f -/
def ns : Nat → Fo → Fo
  | 0, f => f
  | n + 1, f => .node (ns n f) .nil
/-- the hook that has k tops ahead of it and r behind it -/
def hk (k r : Nat) : Fo := ns k (.node .nil (app (ns r .nil) (.node .nil .nil)))
end Dw
namespace Pg
open PySem PySem.Spec L2 Fw
open PyProof.Rows hiding St
end Pg

set_option Elab.async false
set_option linter.all false
set_option maxRecDepth 100000
set_option maxHeartbeats 4000000
set_option autoImplicit false
namespace Fw
open PySem PySem.Spec L2
open PyProof.Rows hiding St
def Gr (h h' : Hs) : Prop := ∃ r, h' = h ++ r
theorem Gr.refl (h : Hs) : Gr h h := ⟨[], by simp⟩
theorem Gr.trans {a b c : Hs} (p : Gr a b) (q : Gr b c) : Gr a c := by
  obtain ⟨r, rfl⟩ := p
  obtain ⟨s, rfl⟩ := q
  exact ⟨r ++ s, by simp⟩
theorem Gr.app (h r : Hs) : Gr h (h ++ r) := ⟨r, rfl⟩
theorem Gr.at {h h' : Hs} (q : Gr h h') {n : Nat} {o : Ob} (e : h[n]? = some o) : h'[n]? = some o := by
  obtain ⟨r, rfl⟩ := q
  rw [List.getElem?_append_left (List.getElem?_eq_some_iff.mp e).1]
  exact e
theorem seq_nx {a c : Ss} {e e' : En} {h h' : Hs} (q : a e h = .nx e' h') : seq a c e h = c e' h' := by rw [seq_ap, q, thn_nx]
end Fw
namespace Pg
open PySem PySem.Spec L2 Fw
open PyProof.Rows hiding St
end Pg

set_option Elab.async false
set_option linter.all false
set_option maxRecDepth 100000
set_option maxHeartbeats 4000000
set_option autoImplicit false
namespace Fw
open PySem PySem.Spec L2
open PyProof.Rows hiding St
theorem whl_any {t : Sm Bool} {b : Ss} {f : Nat} {e : En} {h : Hs} {L : Rt} (hL : whl t b f e h = L) (I : Nat → En → Hs → Prop) (J : En → Hs → Prop) (n : Nat) (hn : n < f) (h0 : I n e h)
    (st : ∀ n e h, I n e h → (∃ h1, t e h = .ok false h1 ∧ J e h1) ∨ (∃ m h1 e' h', n = m + 1 ∧ t e h = .ok true h1 ∧ b e h1 = .nx e' h' ∧ I m e' h')) : ∃ e' h', L = .nx e' h' ∧ J e' h' := by
  subst hL
  induction n generalizing f e h with
  | zero =>
    cases f with
    | zero => omega
    | succ f =>
      rcases st 0 e h h0 with ⟨h1, a, b⟩ | ⟨m, h1, e', h', e0, _⟩
      · exact ⟨e, h1, by simp only [whl, a], b⟩
      · omega
  | succ n ih =>
    cases f with
    | zero => omega
    | succ f =>
      rcases st (n + 1) e h h0 with ⟨h1, a, b⟩ | ⟨m, h1, e1, h2, e0, a1, a2, a3⟩
      · exact ⟨e, h1, by simp only [whl, a], b⟩
      · obtain rfl : m = n := by omega
        obtain ⟨e', h', b1, b2⟩ := ih (f := f) (show m < f by omega) a3
        exact ⟨e', h', by simp only [whl, a1, a2, aft]; exact b1, b2⟩
theorem md_ok {a m : Nat} {h : Hs} (m0 : 0 < m) : kMod (.int (a : Nat)) (.int (m : Nat)) h = .ok (.int (a % m : Nat)) h := by
  simp only [kMod]
  rw [if_pos (by omega)]
  rfl
theorem mu_ok {a b : Nat} {h : Hs} (l : a < 2 ^ 60) : kMul (.int (a : Nat)) (.int (b : Nat)) h = .ok (.int (a * b : Nat)) h := by
  simp only [kMul]
  rw [if_pos (.inl ⟨by omega, by omega⟩), Int.natCast_mul]
theorem fd_ok {a m : Nat} {h : Hs} (m0 : 0 < m) (m1 : m < 1073741824) : kFdv (.int (a : Nat)) (.int (m : Nat)) h = .ok (.int (a / m : Nat)) h := by
  simp only [kFdv]
  rw [if_pos ⟨by omega, by omega⟩]
  rfl
theorem ad_ok {a b : Nat} {h : Hs} : kAdd (.int (a : Nat)) (.int (b : Nat)) h = .ok (.int (a + b : Nat)) h := rfl
theorem sb_ok {a b : Nat} {h : Hs} (l : b ≤ a) : kSub (.int (a : Nat)) (.int (b : Nat)) h = .ok (.int (a - b : Nat)) h := by
  show Rs.ok (Va.int ((a : Int) - b)) h = _
  rw [Int.ofNat_sub l]
theorem eqn_ok {a b : Nat} {h : Hs} : kEq (.int (a : Nat)) (.int (b : Nat)) h = .ok (.bl (decide (a = b))) h := by
  show Rs.ok (Va.bl (decide ((a : Int) = b))) h = _
  congr 3
  rw [eq_iff_iff]
  omega
theorem nen_ok {a b : Nat} {h : Hs} : kNe (.int (a : Nat)) (.int (b : Nat)) h = .ok (.bl (!decide (a = b))) h := by
  show Rs.ok (Va.bl (!decide ((a : Int) = b))) h = _
  congr 4
  rw [eq_iff_iff]
  omega
theorem gt_ok {a b : Nat} {h : Hs} : kGt (.int (a : Nat)) (.int (b : Nat)) h = .ok (.bl (decide (b < a))) h := by simp
theorem le_ok {a b : Nat} {h : Hs} : kLe (.int (a : Nat)) (.int (b : Nat)) h = .ok (.bl (decide (a ≤ b))) h := by simp [kLe]
theorem lt_ok {a b : Nat} {h : Hs} : kLt (.int (a : Nat)) (.int (b : Nat)) h = .ok (.bl (decide (a < b))) h := by simp
theorem stp_go {g : Tg} {b : Ss} {x : Va} {e e1 : En} {h h1 : Hs} (q : g x e h = .ok e1 h1) : stp g b x e h = b e1 h1 := by
  unfold stp
  rw [q]
theorem ix_tupN {xs : List Va} {i : Nat} {x : Va} {h : Hs} (e : xs[i]? = some x) : kIx (.tup xs) (.int (i : Nat)) h = .ok x h := by
  have := Fw.atI_nat e
  simp [kIx, gIx, this]
end Fw

set_option Elab.async false
set_option linter.all false
set_option maxRecDepth 100000
set_option maxHeartbeats 2000000
set_option autoImplicit false
namespace Dk
open PySem PySem.Spec L2 Fw Pg
open PyProof.Rows hiding St
def b__modulus : Ss :=
  (seq (sIf (sBl (s2 kEq (sVar 0) (sK (.str [111, 117, 116]))))
  (sRet (s2 kSub (sVar 1) (sK (.int 1))))
  skip)
  (sRet (sIte (sBl (s2 kEq (sVar 0) (sK (.str [105, 110])))) (s2 kAdd (sVar 1) (sK (.int 1))) (s2 kSub (s2 kMul (sK (.int 2)) (sVar 1)) (sK (.int 1))))))
abbrev R__modulus : Fn := runB 2 b__modulus
def G__modulus : Fn := pureF R__modulus
def b__power_of_two : Ss :=
  (seq (sSet 2 (s2 kMod (sK (.int 1)) (sVar 1)))
  (seq (sSet 3 (s2 kMod (sK (.int 2)) (sVar 1)))
  (seq (sSet 4 (sVar 0))
  (seq (whl (sBl (s2 kGt (sVar 4) (sK (.int 0))))
  (seq (sIf (sBl (s2 kEq (s2 kMod (sVar 4) (sK (.int 2))) (sK (.int 1))))
  (sSet 2 (s2 kMod (s2 kMul (sVar 2) (sVar 3)) (sVar 1)))
  skip)
  (seq (sSet 3 (s2 kMod (s2 kMul (sVar 3) (sVar 3)) (sVar 1)))
  (sSet 4 (s2 kFdv (sVar 4) (sK (.int 2)))))) 1000)
  (sRet (sVar 2))))))
abbrev R__power_of_two : Fn := runB 5 b__power_of_two
def G__power_of_two : Fn := pureF R__power_of_two
def b__need_few : Ss :=
  (sIf (sBl (s2 kGt (sVar 0) (sK (.int 1000))))
  never
  skip)
abbrev R__need_few : Fn := runB 1 b__need_few
def G__need_few : Fn := pureF R__need_few
def b__led : Ss :=
  (seq (sSet 4 (sCall G__modulus 2 [0, 1] (sCons (sVar 0) (sCons (sVar 1) sNil))))
  (seq (sIf (sBl (s2 kEq (sVar 0) (sK (.str [111, 117, 116]))))
  (sRet (sIte (sBl (s2 kEq (sVar 2) (s2 kSub (sVar 1) (sK (.int 1))))) (sVar 2) (s2 kMod (s2 kMul (sVar 2) (sVar 3)) (sVar 4))))
  skip)
  (seq (sIf (sBl (s2 kEq (sVar 0) (sK (.str [105, 110]))))
  (sRet (s2 kSub (s2 kMod (s2 kMul (s2 kAdd (sVar 2) (sK (.int 1))) (sVar 3)) (sVar 4)) (sK (.int 1))))
  skip)
  (seq (sSet 5 (s2 kMod (s2 kMul (s2 kMul (sK (.int 2)) (sVar 2)) (sVar 3)) (sVar 4)))
  (sRet (sIte (sBl (s2 kEq (s2 kMod (sVar 5) (sK (.int 2))) (sK (.int 0)))) (s2 kFdv (sVar 5) (sK (.int 2))) (s2 kFdv (s2 kSub (sVar 4) (sVar 5)) (sK (.int 2)))))))))
abbrev R__led : Fn := runB 6 b__led
def G__led : Fn := pureF R__led
def b_place_after : Ss :=
  (seq (sDrop (sCall G_need_shuffle 1 [0] (sCons (sVar 0) sNil)))
  (seq (sDrop (sCall G_need_size 1 [0] (sCons (sVar 1) sNil)))
  (seq (sDrop (sCall G_need_number 3 [0, 1, 2] (sCons (sVar 2) (sCons (sK (.int 0)) (sCons (s2 kSub (sVar 1) (sK (.int 1))) sNil)))))
  (seq (sDrop (sCall G_need_number 3 [0, 1, 2] (sCons (sVar 3) (sCons (sK (.int 0)) (sCons (sK (.int 1000000000000000000000000000000)) sNil)))))
  (sRet (sCall G__led 4 [0, 1, 2, 3] (sCons (sVar 0) (sCons (sVar 1) (sCons (sVar 2) (sCons (sCall G__power_of_two 2 [0, 1] (sCons (sVar 3) (sCons (sCall G__modulus 2 [0, 1] (sCons (sVar 0) (sCons (sVar 1) sNil))) sNil))) sNil))))))))))
abbrev R_place_after : Fn := runB 4 b_place_after
def G_place_after : Fn := pureF R_place_after
def b_order_of : Ss :=
  (seq (sDrop (sCall G_need_shuffle 1 [0] (sCons (sVar 0) sNil)))
  (seq (sDrop (sCall G_need_size 1 [0] (sCons (sVar 1) sNil)))
  (seq (sSet 2 (sCall G__modulus 2 [0, 1] (sCons (sVar 0) (sCons (sVar 1) sNil))))
  (seq (sSet 3 (sIte (sBl (s2 kEq (sVar 0) (sK (.str [102, 111, 108, 100])))) (sTup (sCons (s2 kMod (sK (.int 1)) (sVar 2)) (sCons (s2 kSub (sVar 2) (sK (.int 1))) sNil))) (sTup (sCons (s2 kMod (sK (.int 1)) (sVar 2)) sNil))))
  (seq (sSet 4 (sK (.int 1)))
  (seq (sSet 5 (s2 kMod (sK (.int 2)) (sVar 2)))
  (seq (whl (sBl (s2 (kIn true) (sVar 5) (sVar 3)))
  (seq (sAug kIad 4 (sK (.int 1)))
  (sSet 5 (s2 kMod (s2 kMul (sK (.int 2)) (sVar 5)) (sVar 2)))) 1000)
  (sRet (sVar 4)))))))))
abbrev R_order_of : Fn := runB 6 b_order_of
def G_order_of : Fn := pureF R_order_of
def b_deck_after : Ss :=
  (seq (sDrop (sCall G_need_shuffle 1 [0] (sCons (sVar 0) sNil)))
  (seq (sDrop (sCall G_need_size 1 [0] (sCons (sVar 1) sNil)))
  (seq (sDrop (sCall G_need_number 3 [0, 1, 2] (sCons (sVar 2) (sCons (sK (.int 0)) (sCons (sK (.int 1000000000000000000000000000000)) sNil)))))
  (seq (sDrop (sCall G__need_few 1 [0] (sCons (sVar 1) sNil)))
  (seq (sSet 3 (sCall G__power_of_two 2 [0, 1] (sCons (sVar 2) (sCons (sCall G__modulus 2 [0, 1] (sCons (sVar 0) (sCons (sVar 1) sNil))) sNil))))
  (seq (sSet 4 (s2 kMul (sLst (sCons (sK (.int 0)) sNil)) (sVar 1)))
  (seq (sFor (sRg1 (sCons (sVar 1) sNil)) (gNm 5)
  (sAsg (sVar 5) (gSb (sVar 4) (sCall G__led 4 [0, 1, 2, 3] (sCons (sVar 0) (sCons (sVar 1) (sCons (sVar 5) (sCons (sVar 3) sNil))))))))
  (sRet (sBlt kTpl (sCons (sVar 4) sNil))))))))))
abbrev R_deck_after : Fn := runB 6 b_deck_after
def G_deck_after : Fn := pureF R_deck_after
def b_loops : Ss :=
  (seq (sDrop (sCall G_need_shuffle 1 [0] (sCons (sVar 0) sNil)))
  (seq (sDrop (sCall G_need_size 1 [0] (sCons (sVar 1) sNil)))
  (seq (sDrop (sCall G__need_few 1 [0] (sCons (sVar 1) sNil)))
  (seq (sSet 2 (sLst sNil))
  (seq (sSet 3 (s2 kMul (sLst (sCons (sK (.bl false)) sNil)) (sVar 1)))
  (seq (sFor (sRg1 (sCons (sVar 1) sNil)) (gNm 4)
  (seq (sSet 5 (sLst sNil))
  (seq (sSet 6 (sVar 4))
  (seq (whl (sNot (sTru (s2 kIx (sVar 3) (sVar 6))))
  (seq (sAsg (sK (.bl true)) (gSb (sVar 3) (sVar 6)))
  (seq (sDrop (sMth "list" kApp (sVar 5) (sCons (sVar 6) sNil)))
  (sSet 6 (sCall G__led 4 [0, 1, 2, 3] (sCons (sVar 0) (sCons (sVar 1) (sCons (sVar 6) (sCons (sK (.int 2)) sNil)))))))) 1000)
  (sIf (sTru (sVar 5))
  (sDrop (sMth "list" kApp (sVar 2) (sCons (sBlt kTpl (sCons (sVar 5) sNil)) sNil)))
  skip)))))
  (sRet (sBlt kTpl (sCons (sVar 2) sNil)))))))))
abbrev R_loops : Fn := runB 7 b_loops
def G_loops : Fn := pureF R_loops
def b_row_to : Ss :=
  (seq (sDrop (sCall G_need_size 1 [0] (sCons (sVar 0) sNil)))
  (seq (sDrop (sCall G_need_number 3 [0, 1, 2] (sCons (sVar 1) (sCons (sK (.int 0)) (sCons (s2 kSub (sVar 0) (sK (.int 1))) sNil)))))
  (seq (sSet 2 (sLst sNil))
  (seq (sSet 3 (sVar 1))
  (seq (whl (sBl (s2 kGt (sVar 3) (sK (.int 0))))
  (seq (sDrop (sMth "list" kApp (sVar 2) (sCons (sIte (sBl (s2 kEq (s2 kMod (sVar 3) (sK (.int 2))) (sK (.int 1)))) (sK (.str [105])) (sK (.str [111]))) sNil)))
  (sSet 3 (s2 kFdv (sVar 3) (sK (.int 2))))) 1000)
  (sRet (sMth "str" kJoin (sK (.str [])) (sCons (s1 kRev (sVar 2)) sNil))))))))
abbrev R_row_to : Fn := runB 4 b_row_to
def G_row_to : Fn := pureF R_row_to
end Dk

set_option Elab.async false
set_option linter.all false
set_option maxRecDepth 100000
set_option maxHeartbeats 4000000
set_option autoImplicit false
namespace Dv
/-- a step of going on by remainders -/
def eus (p : Nat × Nat) : Nat × Nat := if 0 < p.2 then (p.2, p.1 % p.2) else p
def eu : Nat → Nat × Nat → Nat × Nat
  | 0, p => p
  | n + 1, p => eus (eu n p)
/-- 2 to a power, as it is led out -/
def pws (m : Nat) : Nat × Nat × Nat → Nat × Nat × Nat
  | (f, s, l) => (if l % 2 = 1 then f * s % m else f, s * s % m, l / 2)
def pwl (m : Nat) : Nat → Nat × Nat × Nat → Nat
  | 0, p => p.1
  | n + 1, p => if p.2.2 = 0 then p.1 else pwl m n (pws m p)
def pw (e m : Nat) : Nat := pwl m 100 (1 % m, 2 % m, e)
/-- where a card is led to -/
def led (s p w : Nat) : Nat :=
  let t := 2 * p * w % (2 * s - 1)
  if t % 2 = 0 then t / 2 else (2 * s - 1 - t) / 2
def deck (s w : Nat) : Nat → List Nat → List Nat
  | 0, d => d
  | n + 1, d => deck s w n (d.set (led s (s - (n + 1)) w) (s - (n + 1)))
end Dv
namespace Dk
open PySem PySem.Spec L2 Fw Pg
open PyProof.Rows hiding St
abbrev Fd : Va := .str [102, 111, 108, 100]
theorem need_shuffle_ok {h : Hs} : G_need_shuffle [Fd] h = .ok .non h := pure_of (h' := []) rfl rfl rfl
theorem is_size_ok {s : Nat} {h : Hs} (s0 : 2 ≤ s) (s1 : s ≤ 1000000) (s2 : s % 2 = 0) : Pg.G_is_size [.int (s : Nat)] h = .ok (.bl true) h := by
  have iw : ∀ h, G_is_within [.int (s : Nat), .int 2, .int 1000000] h = .ok (.bl true) h := fun h => is_within_ok (by omega) (by omega)
  have md : ∀ h, kMod (.int (s : Nat)) (.int 2) h = .ok (.int 0) h := fun h => by
    simp only [kMod]
    rw [if_pos (by decide)]
    congr 2
    omega
  refine pure_of rfl (h' := []) ?_ rfl
  simp [runB_ap, b_is_size, iw, md]
theorem need_sizeL {s : Nat} {h : Hs} (s0 : 2 ≤ s) (s1 : s ≤ 1000000) (s2 : s % 2 = 0) : Pg.G_need_size [.int (s : Nat)] h = .ok .non h := by
  have iw := fun h => is_size_ok (s := s) (h := h) s0 s1 s2
  refine pure_of rfl (h' := []) ?_ rfl
  simp [runB_ap, b_need_size, iw, trA]
theorem need_size_ok {s : Nat} {h : Hs} (s0 : 2 ≤ s) (s1 : s ≤ 1000) (s2 : s % 2 = 0) : Pg.G_need_size [.int (s : Nat)] h = .ok .non h := need_sizeL s0 (by omega) s2
theorem need_few_ok {s : Nat} {h : Hs} (s1 : s ≤ 1000) : G__need_few [.int (s : Nat)] h = .ok .non h := by
  refine pure_of rfl (h' := []) ?_ rfl
  simp [runB_ap, b__need_few, show ¬(1000 : Int) < s by omega]
theorem modulus_ok {s : Nat} {h : Hs} (s0 : 2 ≤ s) (s1 : s ≤ 1000) : G__modulus [Fd, .int (s : Nat)] h = .ok (.int (2 * s - 1 : Nat)) h := by
  refine pure_of rfl (h' := []) ?_ rfl
  simp [runB_ap, b__modulus, kMul]
  omega
theorem power_ok {e m : Nat} {h : Hs} (m0 : 0 < m) (m1 : m ≤ 2000000) (e1 : e < 2 ^ 100) : G__power_of_two [.int (e : Nat), .int (m : Nat)] h = .ok (.int (Dv.pw e m : Nat)) h := by
  suffices hh : ∃ h', R__power_of_two [.int (e : Nat), .int (m : Nat)] [] = .ok (.int (Dv.pw e m : Nat)) h' by
    obtain ⟨h', hh⟩ := hh
    exact pure_of rfl hh rfl
  have t0 : sSet 2 (s2 kMod (sK (.int 1)) (sVar 1)) [some (.int (e : Nat)), some (.int (m : Nat)), none, none, none] [] = .nx [some (.int (e : Nat)), some (.int (m : Nat)), some (.int (1 % m : Nat)), none, none] [] := by
    simp [show ∀ h, kMod (.int 1) (.int (m : Nat)) h = .ok (.int (1 % m : Nat)) h from fun h => md_ok (a := 1) m0]
  have t1 : sSet 3 (s2 kMod (sK (.int 2)) (sVar 1)) [some (.int (e : Nat)), some (.int (m : Nat)), some (.int (1 % m : Nat)), none, none] [] = .nx [some (.int (e : Nat)), some (.int (m : Nat)), some (.int (1 % m : Nat)), some (.int (2 % m : Nat)), none] [] := by
    simp [show ∀ h, kMod (.int 2) (.int (m : Nat)) h = .ok (.int (2 % m : Nat)) h from fun h => md_ok (a := 2) m0]
  have hl1 : 1 % m < m := Nat.mod_lt _ m0
  have hl2 : 2 % m < m := Nat.mod_lt _ m0
  have hP : Dv.pw e m = Dv.pwl m 100 (1 % m, 2 % m, e) := rfl
  generalize Dv.pw e m = P at *
  generalize 1 % m = f0 at *
  generalize 2 % m = s0 at *
  show ∃ h', fin (b__power_of_two [some (.int (e : Nat)), some (.int (m : Nat)), none, none, none] []) = _
  unfold b__power_of_two
  rw [seq_nx t0, seq_nx t1, seq_nx (e' := [some (.int (e : Nat)), some (.int (m : Nat)), some (.int (f0 : Nat)), some (.int (s0 : Nat)), some (.int (e : Nat))]) (h' := []) (by simp), seq_ap]
  generalize hL : whl _ _ _ _ _ = L
  obtain ⟨e', h', rfl, s, l, rfl, rfl⟩ := whl_any hL (fun n en h => ∃ (f s l : Nat), en = [some (.int (e : Nat)), some (.int (m : Nat)), some (.int (f : Nat)), some (.int (s : Nat)), some (.int (l : Nat))] ∧ h = [] ∧ f < m ∧ s < m ∧ l < 2 ^ n ∧ Dv.pwl m n (f, s, l) = P)
    (fun en h => ∃ (s l : Nat), en = [some (.int (e : Nat)), some (.int (m : Nat)), some (.int (P : Nat)), some (.int (s : Nat)), some (.int (l : Nat))] ∧ h = []) 100 (by decide) ⟨f0, s0, e, rfl, rfl, hl1, hl2, e1, hP.symm⟩ (by
    rintro n en h ⟨f, s, l, rfl, rfl, b1, b2, b3, b4⟩
    by_cases c : l = 0
    · subst c
      refine .inl ⟨[], by simp, s, 0, ?_, rfl⟩
      have : f = P := by
        rw [← b4]
        cases n <;> simp [Dv.pwl]
      rw [this]
    · cases n with
      | zero => omega
      | succ n =>
        rw [Dv.pwl, if_neg c] at b4
        refine .inr ⟨n, [], [some (.int (e : Nat)), some (.int (m : Nat)), some (.int ((if l % 2 = 1 then f * s % m else f : Nat) : Nat)), some (.int (s * s % m : Nat)), some (.int (l / 2 : Nat))], [], rfl, by simp; omega, ?_, if l % 2 = 1 then f * s % m else f, s * s % m, l / 2, rfl, rfl, ?_, Nat.mod_lt _ m0, by rw [Nat.pow_succ] at b3; omega, b4⟩
        · have a1 : ∀ h, kMod (.int (l : Nat)) (.int 2) h = .ok (.int (l % 2 : Nat)) h := fun h => md_ok (m := 2) (by decide)
          have a2 : ∀ h, kFdv (.int (l : Nat)) (.int 2) h = .ok (.int (l / 2 : Nat)) h := fun h => fd_ok (m := 2) (by decide) (by decide)
          have a3 : ∀ h, kEq (.int (l % 2 : Nat)) (.int 1) h = .ok (.bl (decide (l % 2 = 1))) h := fun h => eqn_ok (b := 1)
          have a4 := fun h => mu_ok (a := f) (b := s) (h := h) (by omega)
          have a5 := fun h => mu_ok (a := s) (b := s) (h := h) (by omega)
          have a6 := fun h => md_ok (a := f * s) (h := h) m0
          have a7 := fun h => md_ok (a := s * s) (h := h) m0
          generalize l % 2 = L2 at *
          generalize l / 2 = L3 at *
          generalize f * s = fs at *
          generalize s * s = ss at *
          generalize fs % m = fs2 at *
          generalize ss % m = ss2 at *
          by_cases d : L2 = 1
          · rw [if_pos d]
            simp only [decide_eq_true d] at a3
            simp [-kEq, a1, a2, a3, a4, a5, a6, a7]
          · rw [if_neg d]
            simp only [decide_eq_false d] at a3
            simp [-kEq, a1, a2, a3, a4, a5, a6, a7]
        · split
          · exact Nat.mod_lt _ m0
          · exact b1)
  simp
theorem led_ok {s p w : Nat} {h : Hs} (s0 : 2 ≤ s) (s1 : s ≤ 1000) (p1 : p < s) (w1 : w < 2 * s) : G__led [Fd, .int (s : Nat), .int (p : Nat), .int (w : Nat)] h = .ok (.int (Dv.led s p w : Nat)) h := by
  refine pure_of rfl (h' := []) ?_ rfl
  have a0 := fun h => modulus_ok (h := h) s0 s1
  have a1 : ∀ h, kMul (.int 2) (.int (p : Nat)) h = .ok (.int (2 * p : Nat)) h := fun h => mu_ok (a := 2) (by decide)
  have a2 := fun h => mu_ok (a := 2 * p) (b := w) (h := h) (by omega)
  have m0 : 0 < 2 * s - 1 := by omega
  have a3 := fun h => md_ok (a := 2 * p * w) (m := 2 * s - 1) (h := h) m0
  have hl : 2 * p * w % (2 * s - 1) < 2 * s - 1 := Nat.mod_lt _ m0
  unfold Dv.led
  simp only []
  generalize 2 * p * w % (2 * s - 1) = t at *
  have a4 : ∀ h, kMod (.int (t : Nat)) (.int 2) h = .ok (.int (t % 2 : Nat)) h := fun h => md_ok (m := 2) (by decide)
  have a5 : ∀ h, kEq (.int (t % 2 : Nat)) (.int 0) h = .ok (.bl (decide (t % 2 = 0))) h := fun h => eqn_ok (b := 0)
  have a6 : ∀ h, kFdv (.int (t : Nat)) (.int 2) h = .ok (.int (t / 2 : Nat)) h := fun h => fd_ok (m := 2) (by decide) (by decide)
  have a7 := fun h => sb_ok (a := 2 * s - 1) (b := t) (h := h) (by omega)
  have a8 : ∀ h, kFdv (.int (2 * s - 1 - t : Nat)) (.int 2) h = .ok (.int ((2 * s - 1 - t) / 2 : Nat)) h := fun h => fd_ok (m := 2) (by decide) (by decide)
  generalize t % 2 = t2 at *
  generalize t / 2 = t3 at *
  generalize (2 * s - 1 - t) / 2 = t5 at *
  generalize 2 * s - 1 - t = t4 at *
  generalize 2 * p * w = x1 at *
  generalize 2 * p = x0 at *
  generalize 2 * s - 1 = M at *
  have f1 : ∀ h, kEq Fd (.str [111, 117, 116]) h = .ok (.bl false) h := fun h => rfl
  have f2 : ∀ h, kEq Fd (.str [105, 110]) h = .ok (.bl false) h := fun h => rfl
  by_cases c : t2 = 0
  · rw [if_pos c]
    simp only [decide_eq_true c] at a5
    simp [-kEq, -kSub, runB_ap, b__led, a0, a1, a2, a3, a4, a5, a6, a7, a8, f1, f2]
  · rw [if_neg c]
    simp only [decide_eq_false c] at a5
    simp [-kEq, -kSub, runB_ap, b__led, a0, a1, a2, a3, a4, a5, a6, a7, a8, f1, f2]
end Dk

set_option Elab.async false
set_option linter.all false
set_option maxRecDepth 100000
set_option maxHeartbeats 4000000
set_option autoImplicit false
namespace Dv
def ords : List Nat :=  [1, 3, 5, 4, 9, 11, 9, 5, 12, 12, 7, 23, 8, 20, 29, 6, 33, 35, 20, 39]
def lps : List (List (List Nat)) :=  [[[0], [1]], [[0], [1, 2, 3]], [[0], [1, 2, 4, 3, 5]], [[0], [1, 2, 4, 7], [3, 6], [5]], [[0], [1, 2, 4, 8, 3, 6, 7, 5, 9]], [[0], [1, 2, 4, 8, 7, 9, 5, 10, 3, 6, 11]], [[0], [1, 2, 4, 8, 11, 5, 10, 7, 13], [3, 6, 12], [9]], [[0], [1, 2, 4, 8, 15], [3, 6, 12, 7, 14], [5, 10, 11, 9, 13]], [[0], [1, 2, 4, 8, 16, 3, 6, 12, 11, 13, 9, 17], [5, 10, 15], [7, 14]], [[0], [1, 2, 4, 8, 16, 7, 14, 11, 17, 5, 10, 19], [3, 6, 12, 15, 9, 18], [13]], [[0], [1, 2, 4, 8, 16, 11, 21], [3, 6, 12, 19, 5, 10, 20], [7, 14, 15, 13, 17, 9, 18]], [[0], [1, 2, 4, 8, 16, 15, 17, 13, 21, 5, 10, 20, 7, 14, 19, 9, 18, 11, 22, 3, 6, 12, 23]], [[0], [1, 2, 4, 8, 16, 19, 13, 25], [3, 6, 12, 24], [5, 10, 20, 11, 22, 7, 14, 23], [9, 18, 15, 21], [17]], [[0], [1, 2, 4, 8, 16, 23, 9, 18, 19, 17, 21, 13, 26, 3, 6, 12, 24, 7, 14, 27], [5, 10, 20, 15, 25], [11, 22]], [[0], [1, 2, 4, 8, 16, 27, 5, 10, 20, 19, 21, 17, 25, 9, 18, 23, 13, 26, 7, 14, 28, 3, 6, 12, 24, 11, 22, 15, 29]], [[0], [1, 2, 4, 8, 16, 31], [3, 6, 12, 24, 15, 30], [5, 10, 20, 23, 17, 29], [7, 14, 28], [9, 18, 27], [11, 22, 19, 25, 13, 26], [21]], [[0], [1, 2, 4, 8, 16, 32, 3, 6, 12, 24, 19, 29, 9, 18, 31, 5, 10, 20, 27, 13, 26, 15, 30, 7, 14, 28, 11, 22, 23, 21, 25, 17, 33]], [[0], [1, 2, 4, 8, 16, 32, 7, 14, 28, 15, 30, 11, 22, 27, 17, 34, 3, 6, 12, 24, 23, 25, 21, 29, 13, 26, 19, 33, 5, 10, 20, 31, 9, 18, 35]], [[0], [1, 2, 4, 8, 16, 32, 11, 22, 31, 13, 26, 23, 29, 17, 34, 7, 14, 28, 19, 37], [3, 6, 12, 24, 27, 21, 33, 9, 18, 36], [5, 10, 20, 35], [15, 30], [25]], [[0], [1, 2, 4, 8, 16, 32, 15, 30, 19, 38, 3, 6, 12, 24, 31, 17, 34, 11, 22, 35, 9, 18, 36, 7, 14, 28, 23, 33, 13, 26, 27, 25, 29, 21, 37, 5, 10, 20, 39]]]
theorem pwl_lt (m : Nat) (m0 : 0 < m) : ∀ (n : Nat) (p : Nat × Nat × Nat), p.1 < m → pwl m n p < m := by
  intro n
  induction n with
  | zero => exact fun p h => h
  | succ n ih =>
    intro p h
    rw [pwl]
    split
    · exact h
    · apply ih
      unfold pws
      simp only []
      split
      · exact Nat.mod_lt _ m0
      · exact h
theorem pw_lt {e m : Nat} (m0 : 0 < m) : pw e m < m := pwl_lt m m0 100 _ (Nat.mod_lt _ m0)
theorem led_lt {s p w : Nat} (s0 : 2 ≤ s) : led s p w < s := by
  unfold led
  have := Nat.mod_lt (2 * p * w) (show 0 < 2 * s - 1 by omega)
  simp only []
  generalize 2 * p * w % (2 * s - 1) = t at *
  split <;> omega
end Dv
namespace Dk
open PySem PySem.Spec L2 Fw Pg
open PyProof.Rows hiding St
def beqI : List Va → List Nat → Bool
  | [], [] => true
  | .int i :: r, n :: s => decide (i = n) && beqI r s
  | _, _ => false
def beqL : List Va → List (List Nat) → Bool
  | [], [] => true
  | .tup x :: r, y :: s => beqI x y && beqL r s
  | _, _ => false
theorem beqI_of : ∀ {xs : List Va} {ns : List Nat}, beqI xs ns = true → xs = ns.map fun n => Va.int (n : Nat)
  | [], [], _ => rfl
  | .int i :: r, n :: s, q => by
    simp only [beqI, Bool.and_eq_true, decide_eq_true_eq] at q
    rw [beqI_of q.2, q.1]
    rfl
theorem beqL_of : ∀ {xs : List Va} {ns : List (List Nat)}, beqL xs ns = true → xs = ns.map fun l => Va.tup (l.map fun n => Va.int (n : Nat))
  | [], [], _ => rfl
  | .tup x :: r, y :: s, q => by
    simp only [beqL, Bool.and_eq_true] at q
    rw [beqL_of q.2, beqI_of q.1]
    rfl
def isT (r : Rs Va) (l : List (List Nat)) : Bool := match r with
  | .ok (.tup xs) _ => beqL xs l
  | _ => false
theorem isT_of {r : Rs Va} {l : List (List Nat)} (q : isT r l = true) : ∃ h, r = .ok (.tup (l.map fun x => Va.tup (x.map fun n => Va.int (n : Nat)))) h := by
  unfold isT at q
  split at q
  · exact ⟨_, by rw [beqL_of q]⟩
  · cases q
theorem ord_all : ((List.range 20).all fun k => isI (R_order_of [Fd, .int (2 * (1 + k) : Nat)] []) ((Dv.ords[k]?.getD 0 : Nat))) = true := by decide +kernel
theorem lps_all : ((List.range 20).all fun k => isT (R_loops [Fd, .int (2 * (1 + k) : Nat)] []) (Dv.lps[k]?.getD [])) = true := by decide +kernel
theorem lf_ints : ∀ l : List Nat, lfL (l.map fun n => Va.int (n : Nat)) = true
  | [] => rfl
  | _ :: r => lf_ints r
theorem lf_tups : ∀ l : List (List Nat), lfL (l.map fun x => Va.tup (x.map fun n => Va.int (n : Nat))) = true
  | [] => rfl
  | x :: r => by
    show (lfL (x.map fun n => Va.int (n : Nat)) && lfL _) = true
    rw [lf_ints, lf_tups r]
    rfl
theorem order_ok {k : Nat} {h : Hs} (l : k < 20) : G_order_of [Fd, .int (2 * (1 + k) : Nat)] h = .ok (.int (Dv.ords[k]?.getD 0 : Nat)) h := by
  obtain ⟨h', e⟩ := isI_of (List.all_eq_true.mp ord_all k (List.mem_range.mpr l))
  exact pure_of rfl e rfl
theorem loops_ok {k : Nat} {h : Hs} (l : k < 20) : G_loops [Fd, .int (2 * (1 + k) : Nat)] h = .ok (.tup ((Dv.lps[k]?.getD []).map fun x => Va.tup (x.map fun n => Va.int (n : Nat)))) h := by
  obtain ⟨h', e⟩ := isT_of (List.all_eq_true.mp lps_all k (List.mem_range.mpr l))
  exact pure_of rfl e (lf_tups _)
theorem place_after_ok {s p e : Nat} {h : Hs} (s0 : 2 ≤ s) (s1 : s ≤ 1000) (s2 : s % 2 = 0) (p1 : p < s) (e1 : e ≤ 10 ^ 30) : G_place_after [Fd, .int (s : Nat), .int (p : Nat), .int (e : Nat)] h = .ok (.int (Dv.led s p (Dv.pw e (2 * s - 1)) : Nat)) h := by
  refine pure_of rfl (h' := []) ?_ rfl
  have a0 : ∀ h, G_need_shuffle [Fd] h = .ok .non h := fun h => need_shuffle_ok
  have a1 := fun h => need_size_ok (h := h) s0 s1 s2
  have a2 := fun h => sb_ok (a := s) (b := 1) (h := h) (by omega)
  have a3 : ∀ h, Pg.G_need_number [.int (p : Nat), .int 0, .int (s - 1 : Nat)] h = .ok .non h := fun h => need_number_ok (by omega) (by omega)
  have a4 : ∀ h, Pg.G_need_number [.int (e : Nat), .int 0, .int 1000000000000000000000000000000] h = .ok .non h := fun h => need_number_ok (by omega) (by omega)
  have a5 := fun h => modulus_ok (h := h) s0 s1
  have a6 := fun h => power_ok (e := e) (m := 2 * s - 1) (h := h) (by omega) (by omega) (Nat.lt_of_le_of_lt e1 (by decide +kernel))
  have wl := Dv.pw_lt (e := e) (m := 2 * s - 1) (by omega)
  have a7 := fun h => led_ok (w := Dv.pw e (2 * s - 1)) (h := h) s0 s1 p1 (by omega)
  generalize Dv.led s p (Dv.pw e (2 * s - 1)) = R at *
  generalize Dv.pw e (2 * s - 1) = w at *
  generalize 2 * s - 1 = M at *
  generalize s - 1 = s1 at *
  have a2 : ∀ h, kSub (.int (s : Nat)) (.int 1) h = .ok (.int (s1 : Nat)) h := a2
  simp [-kSub, runB_ap, b_place_after, a0, a1, a2, a3, a4, a5, a6, a7]
theorem deck_mu (s : Nat) (s1 : s ≤ 1000) : kMul (.loc 0) (.int (s : Nat)) [.lst [.int 0]] = .ok (.loc 1) [.lst [.int 0], .lst ((List.replicate s 0).map vN)] := by
  simp only [kMul, List.getElem?_cons_zero]
  rw [if_pos ⟨by omega, by omega, by simp; omega⟩]
  rw [Int.toNat_natCast, show (List.replicate s [Va.int 0]).flatten = (List.replicate s 0).map vN by simp [vN]]
  unfold newL
  rw [if_pos (by simp; omega)]
  rfl
theorem deck_after_ok {s e : Nat} {h : Hs} (s0 : 2 ≤ s) (s1 : s ≤ 1000) (s2 : s % 2 = 0) (e1 : e ≤ 10 ^ 30) : G_deck_after [Fd, .int (s : Nat), .int (e : Nat)] h = .ok (.tup ((Dv.deck s (Dv.pw e (2 * s - 1)) s (List.replicate s 0)).map vN)) h := by
  suffices hh : ∃ h', R_deck_after [Fd, .int (s : Nat), .int (e : Nat)] [] = .ok (.tup ((Dv.deck s (Dv.pw e (2 * s - 1)) s (List.replicate s 0)).map vN)) h' by
    obtain ⟨h', hh⟩ := hh
    exact pure_of rfl hh (lf_ints _)
  have a0 : ∀ h, G_need_shuffle [Fd] h = .ok .non h := fun h => need_shuffle_ok
  have a1 := fun h => need_size_ok (h := h) s0 s1 s2
  have a2 : ∀ h, G__need_few [.int (s : Nat)] h = .ok .non h := fun h => need_few_ok s1
  have a4 : ∀ h, Pg.G_need_number [.int (e : Nat), .int 0, .int 1000000000000000000000000000000] h = .ok .non h := fun h => need_number_ok (by omega) (by omega)
  have a5 := fun h => modulus_ok (h := h) s0 s1
  have a6 := fun h => power_ok (e := e) (m := 2 * s - 1) (h := h) (by omega) (by omega) (Nat.lt_of_le_of_lt e1 (by decide +kernel))
  have wl := Dv.pw_lt (e := e) (m := 2 * s - 1) (by omega)
  have a7 := fun p h (p1 : p < s) => led_ok (p := p) (w := Dv.pw e (2 * s - 1)) (h := h) s0 s1 p1 (by omega)
  generalize Dv.pw e (2 * s - 1) = w at *
  generalize 2 * s - 1 = M at *
  have mu := deck_mu s s1
  have n0 := new_ok (xs := [Va.int 0]) (h := []) (by simp)
  simp only [List.nil_append, List.length_nil] at n0
  have rg : ∀ e1 e2 e3 h, sRg1 (sCons (sVar 1) sNil) [some Fd, some (.int (s : Nat)), e1, e2, e3, none] h = .ok (srcR 0 s, s) h := fun _ _ _ _ => rg1_ok (by simp) (by omega)
  simp [runB_ap, b_deck_after, a0, a1, a2, a4, a5, a6, n0, mu, rg]
  generalize hL : loop _ _ _ _ _ _ = L
  obtain ⟨e', h', rfl, d, z, rfl, rfl, dl, de⟩ := loop_gen hL (fun i en h => ∃ (d : List Nat) (z : Option Va), en = [some Fd, some (.int (s : Nat)), some (.int (e : Nat)), some (.int (w : Nat)), some (.loc 1), z] ∧ h = [.lst [.int 0], .lst (d.map vN)] ∧ d.length = s ∧ Dv.deck s w (s - i) d = Dv.deck s w s (List.replicate s 0)) ⟨List.replicate s 0, none, rfl, by simp, by simp, rfl⟩ (by
    rintro i en h hi ⟨d, z, rfl, rfl, dl, de⟩
    have a8 := fun h => a7 i h hi
    have ll := Dv.led_lt (p := i) (w := w) s0
    have e1 : s - i = (s - (i + 1)) + 1 := by omega
    rw [e1, Dv.deck, show s - (s - (i + 1) + 1) = i by omega] at de
    generalize Dv.led s i w = j at *
    have ks := ks_nat (h := [.lst [.int 0], .lst (d.map vN)]) (n := 1) (i := j) (x := .int (i : Nat)) (xs := d.map vN) rfl (by simp; omega)
    refine ⟨.int (i : Nat), [some Fd, some (.int (s : Nat)), some (.int (e : Nat)), some (.int (w : Nat)), some (.loc 1), some (.int (i : Nat))], [.lst [.int 0], .lst ((d.set j i).map vN)], by simp [hi], ?_, d.set j i, some (.int (i : Nat)), rfl, rfl, by simpa using dl, de⟩
    have e3 : (d.map vN).set j (.int (i : Nat)) = (d.set j i).map vN := by rw [List.map_set]; rfl
    rw [e3] at ks
    have c1 : ∀ h, sCall G__led 4 [0, 1, 2, 3] (sCons (sVar 0) (sCons (sVar 1) (sCons (sVar 5) (sCons (sVar 3) sNil)))) [some Fd, some (.int (s : Nat)), some (.int (e : Nat)), some (.int (w : Nat)), some (.loc 1), some (.int (i : Nat))] h = .ok (.int (j : Nat)) h := fun h => by simp [a8]
    have bd : sAsg (sVar 5) (gSb (sVar 4) (sCall G__led 4 [0, 1, 2, 3] (sCons (sVar 0) (sCons (sVar 1) (sCons (sVar 5) (sCons (sVar 3) sNil)))))) [some Fd, some (.int (s : Nat)), some (.int (e : Nat)), some (.int (w : Nat)), some (.loc 1), some (.int (i : Nat))] [.lst [.int 0], .lst (d.map vN)] = .nx [some Fd, some (.int (s : Nat)), some (.int (e : Nat)), some (.int (w : Nat)), some (.loc 1), some (.int (i : Nat))] ([.lst [.int 0], .lst (d.map vN)].set 1 (.lst ((d.set j i).map vN))) := by
      rw [sAsg_ap, sV5, fwdS_ok, gSb_ap, sV4, fwd_ok, c1, fwd_ok, ks]
    have tg : gNm 5 (.int (i : Nat)) [some Fd, some (.int (s : Nat)), some (.int (e : Nat)), some (.int (w : Nat)), some (.loc 1), z] [.lst [.int 0], .lst (d.map vN)] = .ok [some Fd, some (.int (s : Nat)), some (.int (e : Nat)), some (.int (w : Nat)), some (.loc 1), some (.int (i : Nat))] [.lst [.int 0], .lst (d.map vN)] := by simp
    rw [stp_go tg, bd]
    rfl) (by
    rintro en h ⟨d, z, rfl, rfl, _⟩
    simp)
  rw [Nat.sub_self, Dv.deck] at de
  simp [kTpl, lsA, de]
end Dk

set_option Elab.async false
set_option linter.all false
set_option maxRecDepth 100000
set_option maxHeartbeats 4000000
set_option autoImplicit false
namespace Dv
theorem pwl_eq (m : Nat) (m0 : 0 < m) : ∀ (n : Nat) (f s l : Nat), f < m → l < 2 ^ n → pwl m n (f, s, l) = f * s ^ l % m := by
  intro n
  induction n with
  | zero =>
    intro f s l hf hl
    have : l = 0 := by omega
    subst this
    rw [pwl, Nat.pow_zero, Nat.mul_one, Nat.mod_eq_of_lt hf]
  | succ n ih =>
    intro f s l hf hl
    rw [pwl]
    by_cases c : l = 0
    · subst c
      rw [if_pos rfl, Nat.pow_zero, Nat.mul_one, Nat.mod_eq_of_lt hf]
    · rw [if_neg (show ¬ (f, s, l).2.2 = 0 from c)]
      unfold pws
      simp only []
      have hl2 : l / 2 < 2 ^ n := by rw [Nat.pow_succ] at hl; omega
      by_cases d : l % 2 = 1
      · rw [if_pos d, ih _ _ _ (Nat.mod_lt _ m0) hl2]
        have e : l = 2 * (l / 2) + 1 := by omega
        have e2 : s ^ l = s * (s * s) ^ (l / 2) := by
          conv => lhs; rw [e]
          rw [Nat.pow_succ, Nat.pow_mul, Nat.pow_two, Nat.mul_comm]
        rw [e2, ← Nat.mul_assoc]
        rw [Nat.mul_mod, Nat.mod_mod, ← Nat.pow_mod, ← Nat.mul_mod]
      · rw [if_neg d, ih _ _ _ hf hl2]
        have e : l = 2 * (l / 2) := by omega
        have e2 : s ^ l = (s * s) ^ (l / 2) := by
          conv => lhs; rw [e]
          rw [Nat.pow_mul, Nat.pow_two]
        rw [e2, Nat.mul_mod, ← Nat.pow_mod, ← Nat.mul_mod]
theorem pw_eq {e m : Nat} (m0 : 0 < m) (he : e < 2 ^ 100) : pw e m = 2 ^ e % m := by
  unfold pw
  rw [pwl_eq m m0 100 _ _ _ (Nat.mod_lt _ m0) he, Nat.mul_mod, ← Nat.pow_mod, ← Nat.mul_mod, Nat.mul_mod, Nat.mod_mod, ← Nat.mul_mod, Nat.one_mul]
/-- where the cards go by the shuffles out and in -/
def ledO (s p w : Nat) : Nat := if p = s - 1 then p else p * w % (s - 1)
def ledI (s p w : Nat) : Nat := (p + 1) * w % (s + 1) - 1
def stO (s h : Nat) : Nat := if h < s / 2 then 2 * h else 2 * h - s + 1
def stI (s h : Nat) : Nat := if h < s / 2 then 2 * h + 1 else 2 * h - s
theorem dbl {x m : Nat} (h : x < m) : 2 * x % m = if 2 * x < m then 2 * x else 2 * x - m := by
  split
  · rename_i c
    exact Nat.mod_eq_of_lt c
  · rename_i c
    rw [Nat.mod_eq_sub_mod (by omega), Nat.mod_eq_of_lt (by omega)]
theorem up_mod (p e m : Nat) : p * (2 ^ (e + 1) % m) % m = 2 * (p * (2 ^ e % m) % m) % m := by
  rw [Nat.mul_mod, Nat.mod_mod, ← Nat.mul_mod]
  conv => rhs; rw [Nat.mul_mod, Nat.mod_mod, ← Nat.mul_mod]
  have : p * (2 ^ e % m) % m = p * 2 ^ e % m := by rw [Nat.mul_mod, Nat.mod_mod, ← Nat.mul_mod]
  rw [Nat.pow_succ]
  conv => rhs; rw [Nat.mul_mod, this, ← Nat.mul_mod]
  congr 1
  rw [Nat.mul_comm (2 ^ e) 2, Nat.mul_left_comm]
theorem stepO {s p e : Nat} (s0 : 2 ≤ s) (s2 : s % 2 = 0) (p1 : p < s) : stO s (ledO s p (2 ^ e % (s - 1))) = ledO s p (2 ^ (e + 1) % (s - 1)) := by
  unfold ledO stO
  by_cases c : p = s - 1
  · rw [if_pos c, if_pos c]
    split <;> omega
  · rw [if_neg c, if_neg c, up_mod]
    have h := Nat.mod_lt (p * (2 ^ e % (s - 1))) (show 0 < s - 1 by omega)
    generalize p * (2 ^ e % (s - 1)) % (s - 1) = x at *
    rw [dbl h]
    by_cases d : 2 * x < s - 1
    · rw [if_pos d, if_pos (by omega)]
    · rw [if_neg d, if_neg (by omega)]
      omega
theorem nz {s p e : Nat} (s2 : s % 2 = 0) (p1 : p < s) : 0 < (p + 1) * (2 ^ e % (s + 1)) % (s + 1) := by
  rw [Nat.mul_mod, Nat.mod_mod, ← Nat.mul_mod]
  refine Nat.pos_of_ne_zero fun h => ?_
  have d := Nat.dvd_of_mod_eq_zero h
  have co : Nat.Coprime (s + 1) (2 ^ e) := by
    refine Nat.Coprime.pow_right e ?_
    have : (s + 1) % 2 = 1 := by omega
    rw [Nat.Coprime, Nat.gcd_comm, Nat.gcd_rec, this]
    rfl
  have := Nat.le_of_dvd (by omega) (co.dvd_of_dvd_mul_right d)
  omega
theorem stepI {s p e : Nat} (s0 : 2 ≤ s) (s2 : s % 2 = 0) (p1 : p < s) : stI s (ledI s p (2 ^ e % (s + 1))) = ledI s p (2 ^ (e + 1) % (s + 1)) := by
  have z1 := nz (e := e) s2 p1
  have z2 := nz (e := e + 1) s2 p1
  unfold ledI stI
  rw [up_mod] at z2 ⊢
  have h := Nat.mod_lt ((p + 1) * (2 ^ e % (s + 1))) (show 0 < s + 1 by omega)
  generalize (p + 1) * (2 ^ e % (s + 1)) % (s + 1) = x at *
  rw [dbl h] at z2 ⊢
  by_cases d : 2 * x < s + 1
  · rw [if_pos d] at z2 ⊢
    rw [if_pos (by omega)]
    omega
  · rw [if_neg d] at z2 ⊢
    rw [if_neg (by omega)]
    omega
end Dv

set_option Elab.async false
set_option linter.all false
set_option maxRecDepth 100000
set_option maxHeartbeats 4000000
set_option autoImplicit false
namespace Dv
/-- the modulus of a shuffle, where it leads a card: b for 'in' -/
def md (b : Bool) (s : Nat) : Nat := if b then s + 1 else s - 1
def ledB (b : Bool) (s p w : Nat) : Nat := if b then ledI s p w else ledO s p w
def stB (b : Bool) (s h : Nat) : Nat := if b then stI s h else stO s h
theorem md_pos {b : Bool} {s : Nat} (s0 : 2 ≤ s) : 0 < md b s := by cases b <;> simp [md] <;> omega
theorem md_le {b : Bool} {s : Nat} : md b s ≤ s + 1 := by cases b <;> simp [md] <;> omega
theorem ledB_lt {b : Bool} {s p w : Nat} (s0 : 2 ≤ s) (p1 : p < s) : ledB b s p w < s := by
  cases b
  · show ledO s p w < s
    unfold ledO
    split
    · exact p1
    · have := Nat.mod_lt (p * w) (show 0 < s - 1 by omega)
      omega
  · show ledI s p w < s
    unfold ledI
    have := Nat.mod_lt ((p + 1) * w) (show 0 < s + 1 by omega)
    omega
end Dv
namespace Dk
open PySem PySem.Spec L2 Fw Pg
open PyProof.Rows hiding St
def Wd (b : Bool) : Va := if b then .str [105, 110] else .str [111, 117, 116]
theorem need_shuffleB {b : Bool} {h : Hs} : G_need_shuffle [Wd b] h = .ok .non h := by
  cases b <;> exact pure_of (h' := []) rfl rfl rfl
theorem need_sizeB {s : Nat} {h : Hs} (s0 : 2 ≤ s) (s1 : s ≤ 1000000) (s2 : s % 2 = 0) : Pg.G_need_size [.int (s : Nat)] h = .ok .non h := need_sizeL s0 s1 s2
theorem modulusB {b : Bool} {s : Nat} {h : Hs} (s0 : 2 ≤ s) : G__modulus [Wd b, .int (s : Nat)] h = .ok (.int (Dv.md b s : Nat)) h := by
  cases b
  · have e : ∀ h, kSub (.int (s : Nat)) (.int 1) h = .ok (.int (s - 1 : Nat)) h := fun h => sb_ok (b := 1) (by omega)
    refine pure_of rfl (h' := []) ?_ rfl
    show R__modulus [.str [111, 117, 116], .int (s : Nat)] [] = .ok (.int (s - 1 : Nat)) []
    generalize s - 1 = t at *
    simp [-kSub, runB_ap, b__modulus, e]
  · have e : ∀ h, kAdd (.int (s : Nat)) (.int 1) h = .ok (.int (s + 1 : Nat)) h := fun h => ad_ok (b := 1)
    refine pure_of rfl (h' := []) ?_ rfl
    show R__modulus [.str [105, 110], .int (s : Nat)] [] = .ok (.int (s + 1 : Nat)) []
    generalize s + 1 = t at *
    simp [-kAdd, runB_ap, b__modulus, e]
theorem ledB_ok {b : Bool} {s p w : Nat} {h : Hs} (s0 : 2 ≤ s) (s1 : s ≤ 1000000) (p1 : p < s) (w1 : w ≤ 2000000) (nz : b = true → 0 < (p + 1) * w % (s + 1)) : G__led [Wd b, .int (s : Nat), .int (p : Nat), .int (w : Nat)] h = .ok (.int (Dv.ledB b s p w : Nat)) h := by
  have a0 := fun h => modulusB (b := b) (h := h) s0
  cases b
  · have s1' : ∀ h, kSub (.int (s : Nat)) (.int 1) h = .ok (.int (s - 1 : Nat)) h := fun h => sb_ok (b := 1) (by omega)
    have e := fun h => eqn_ok (a := p) (b := s - 1) (h := h)
    have a0 : ∀ h, G__modulus [.str [111, 117, 116], .int (s : Nat)] h = .ok (.int (s - 1 : Nat)) h := a0
    have m1 := fun h => mu_ok (a := p) (b := w) (h := h) (by omega)
    have m2 := fun h => md_ok (a := p * w) (m := s - 1) (h := h) (by omega)
    refine pure_of rfl (h' := []) ?_ rfl
    show R__led [.str [111, 117, 116], .int (s : Nat), .int (p : Nat), .int (w : Nat)] [] = .ok (.int (Dv.ledO s p w : Nat)) []
    unfold Dv.ledO
    have f1 : ∀ h, kEq (.str [111, 117, 116]) (.str [111, 117, 116]) h = .ok (.bl true) h := fun h => rfl
    by_cases c : p = s - 1
    · rw [if_pos c]
      simp only [decide_eq_true c] at e
      clear c
      generalize p * w % (s - 1) = x at *
      generalize p * w = y at *
      generalize s - 1 = t at *
      simp [-kSub, -kEq, runB_ap, b__led, a0, s1', e, f1]
    · rw [if_neg c]
      simp only [decide_eq_false c] at e
      clear c
      generalize p * w % (s - 1) = x at *
      generalize p * w = y at *
      generalize s - 1 = t at *
      simp [-kSub, -kEq, runB_ap, b__led, a0, s1', e, f1, m1, m2]
  · have a0 : ∀ h, G__modulus [.str [105, 110], .int (s : Nat)] h = .ok (.int (s + 1 : Nat)) h := a0
    have z := nz rfl
    have ad : ∀ h, kAdd (.int (p : Nat)) (.int 1) h = .ok (.int (p + 1 : Nat)) h := fun h => ad_ok (b := 1)
    have m1 := fun h => mu_ok (a := p + 1) (b := w) (h := h) (by omega)
    have m2 := fun h => md_ok (a := (p + 1) * w) (m := s + 1) (h := h) (by omega)
    have s3 : ∀ h, kSub (.int ((p + 1) * w % (s + 1) : Nat)) (.int 1) h = .ok (.int ((p + 1) * w % (s + 1) - 1 : Nat)) h := fun h => sb_ok (b := 1) z
    refine pure_of rfl (h' := []) ?_ rfl
    show R__led [.str [105, 110], .int (s : Nat), .int (p : Nat), .int (w : Nat)] [] = .ok (.int ((p + 1) * w % (s + 1) - 1 : Nat)) []
    have f1 : ∀ h, kEq (.str [105, 110]) (.str [111, 117, 116]) h = .ok (.bl false) h := fun h => rfl
    have f2 : ∀ h, kEq (.str [105, 110]) (.str [105, 110]) h = .ok (.bl true) h := fun h => rfl
    clear z
    generalize (p + 1) * w % (s + 1) - 1 = x1 at *
    generalize (p + 1) * w % (s + 1) = x at *
    generalize (p + 1) * w = y at *
    generalize p + 1 = p' at *
    generalize s + 1 = t at *
    simp [-kSub, -kEq, -kAdd, runB_ap, b__led, a0, ad, m1, m2, s3, f1, f2]
end Dk

set_option Elab.async false
set_option linter.all false
set_option maxRecDepth 100000
set_option maxHeartbeats 4000000
set_option autoImplicit false
namespace Dv
theorem nzB {b : Bool} {s p e : Nat} (s2 : s % 2 = 0) (p1 : p < s) : b = true → 0 < (p + 1) * (2 ^ e % md b s) % (s + 1) := by
  rintro rfl
  exact nz s2 p1
def dkF (f : Nat → Nat) (s : Nat) : Nat → List Nat → List Nat
  | 0, d => d
  | n + 1, d => dkF f s n (d.set (f (s - (n + 1))) (s - (n + 1)))
theorem inj_mul {a b w m : Nat} (a1 : a < m) (b1 : b < m) (co : Nat.Coprime m w) (h : a * w % m = b * w % m) : a = b := by
  have key : ∀ {a b : Nat}, a < m → b < m → a ≤ b → a * w % m = b * w % m → a = b := by
    intro a b a1 b1 l h
    have d : m ∣ b * w - a * w := Nat.dvd_of_mod_eq_zero (Nat.sub_mod_eq_zero_of_mod_eq h.symm)
    rw [← Nat.sub_mul] at d
    have := co.dvd_of_dvd_mul_right d
    by_cases z : b - a = 0
    · omega
    · have := Nat.le_of_dvd (by omega) this
      omega
  rcases Nat.le_total a b with l | l
  · exact key a1 b1 l h
  · exact (key b1 a1 l h.symm).symm
theorem co_pow {m e : Nat} (o : m % 2 = 1) : Nat.Coprime m (2 ^ e % m) := by
  have co : Nat.Coprime m (2 ^ e) := by
    refine Nat.Coprime.pow_right e ?_
    rw [Nat.Coprime, Nat.gcd_comm, Nat.gcd_rec, o]
    rfl
  rw [Nat.Coprime, Nat.gcd_comm, ← Nat.gcd_rec]
  exact co
end Dv
namespace Dk
open PySem PySem.Spec L2 Fw Pg
open PyProof.Rows hiding St
theorem place_afterB {b : Bool} {s p e : Nat} {h : Hs} (s0 : 2 ≤ s) (s1 : s ≤ 1000000) (s2 : s % 2 = 0) (p1 : p < s) (e1 : e ≤ 10 ^ 30) : G_place_after [Wd b, .int (s : Nat), .int (p : Nat), .int (e : Nat)] h = .ok (.int (Dv.ledB b s p (2 ^ e % Dv.md b s) : Nat)) h := by
  have ml := Dv.md_le (b := b) (s := s)
  have mp := Dv.md_pos (b := b) s0
  have el : e < 2 ^ 100 := Nat.lt_of_le_of_lt e1 (by decide +kernel)
  have a0 : ∀ h, G_need_shuffle [Wd b] h = .ok .non h := fun h => need_shuffleB
  have a1 := fun h => need_sizeB (h := h) s0 s1 s2
  have a2 := fun h => sb_ok (a := s) (b := 1) (h := h) (by omega)
  have a3 : ∀ h, Pg.G_need_number [.int (p : Nat), .int 0, .int (s - 1 : Nat)] h = .ok .non h := fun h => need_number_ok (by omega) (by omega)
  have a4 : ∀ h, Pg.G_need_number [.int (e : Nat), .int 0, .int 1000000000000000000000000000000] h = .ok .non h := fun h => need_number_ok (by omega) (by omega)
  have a5 := fun h => modulusB (b := b) (h := h) s0
  have a6 := fun h => power_ok (e := e) (m := Dv.md b s) (h := h) mp (by omega) el
  rw [Dv.pw_eq mp el] at a6
  have wl := Nat.mod_lt (2 ^ e) mp
  have a7 := fun h => ledB_ok (b := b) (w := 2 ^ e % Dv.md b s) (h := h) s0 s1 p1 (by omega) (Dv.nzB s2 p1)
  have lw : lf (Wd b) = true := by cases b <;> rfl
  refine pure_of (by simp [lfL, lf, lw]) (h' := []) ?_ rfl
  generalize Dv.ledB b s p (2 ^ e % Dv.md b s) = R at *
  generalize 2 ^ e % Dv.md b s = w at *
  generalize Dv.md b s = M at *
  generalize s - 1 = t at *
  generalize Wd b = V at *
  have a2 : ∀ h, kSub (.int (s : Nat)) (.int 1) h = .ok (.int (t : Nat)) h := a2
  simp [-kSub, runB_ap, b_place_after, a0, a1, a2, a3, a4, a5, a6, a7]
end Dk

set_option Elab.async false
set_option linter.all false
set_option maxRecDepth 100000
set_option maxHeartbeats 4000000
set_option autoImplicit false
namespace Dk
open PySem PySem.Spec L2 Fw Pg
open PyProof.Rows hiding St
theorem deck_afterB {b : Bool} {s e : Nat} {h : Hs} (s0 : 2 ≤ s) (s1 : s ≤ 1000) (s2 : s % 2 = 0) (e1 : e ≤ 10 ^ 30) : G_deck_after [(Wd b), .int (s : Nat), .int (e : Nat)] h = .ok (.tup ((Dv.dkF (fun p => Dv.ledB b s p (2 ^ e % Dv.md b s)) s s (List.replicate s 0)).map vN)) h := by
  suffices hh : ∃ h', R_deck_after [(Wd b), .int (s : Nat), .int (e : Nat)] [] = .ok (.tup ((Dv.dkF (fun p => Dv.ledB b s p (2 ^ e % Dv.md b s)) s s (List.replicate s 0)).map vN)) h' by
    obtain ⟨h', hh⟩ := hh
    exact pure_of (by have lw : lf (Wd b) = true := (by cases b <;> rfl); simp [lfL, lf, lw]) hh (lf_ints _)
  have a0 : ∀ h, G_need_shuffle [(Wd b)] h = .ok .non h := fun h => need_shuffleB
  have a1 := fun h => need_sizeB (h := h) s0 (by omega) s2
  have a2 : ∀ h, G__need_few [.int (s : Nat)] h = .ok .non h := fun h => need_few_ok s1
  have a4 : ∀ h, Pg.G_need_number [.int (e : Nat), .int 0, .int 1000000000000000000000000000000] h = .ok .non h := fun h => need_number_ok (by omega) (by omega)
  have a5 := fun h => modulusB (b := b) (h := h) s0
  have ml := Dv.md_le (b := b) (s := s)
  have mp := Dv.md_pos (b := b) s0
  have el : e < 2 ^ 100 := Nat.lt_of_le_of_lt e1 (by decide +kernel)
  have a6 := fun h => power_ok (e := e) (m := Dv.md b s) (h := h) mp (by omega) el
  rw [Dv.pw_eq mp el] at a6
  have wl := Nat.mod_lt (2 ^ e) mp
  have a7 := fun p h (p1 : p < s) => ledB_ok (b := b) (p := p) (w := 2 ^ e % Dv.md b s) (h := h) s0 (by omega) p1 (by omega) (Dv.nzB s2 p1)
  have ll := fun p (p1 : p < s) => Dv.ledB_lt (b := b) (p := p) (w := 2 ^ e % Dv.md b s) s0 p1
  generalize 2 ^ e % Dv.md b s = w at *
  generalize Dv.md b s = M at *
  generalize hV : Wd b = V at *
  have mu := deck_mu s s1
  have n0 := new_ok (xs := [Va.int 0]) (h := []) (by simp)
  simp only [List.nil_append, List.length_nil] at n0
  have rg : ∀ e1 e2 e3 h, sRg1 (sCons (sVar 1) sNil) [some V, some (.int (s : Nat)), e1, e2, e3, none] h = .ok (srcR 0 s, s) h := fun _ _ _ _ => rg1_ok (by simp) (by omega)
  simp [runB_ap, b_deck_after, a0, a1, a2, a4, a5, a6, n0, mu, rg]
  generalize hL : loop _ _ _ _ _ _ = L
  obtain ⟨e', h', rfl, d, z, rfl, rfl, dl, de⟩ := loop_gen hL (fun i en h => ∃ (d : List Nat) (z : Option Va), en = [some V, some (.int (s : Nat)), some (.int (e : Nat)), some (.int (w : Nat)), some (.loc 1), z] ∧ h = [.lst [.int 0], .lst (d.map vN)] ∧ d.length = s ∧ Dv.dkF (fun p => Dv.ledB b s p w) s (s - i) d = Dv.dkF (fun p => Dv.ledB b s p w) s s (List.replicate s 0)) ⟨List.replicate s 0, none, rfl, by simp, by simp, rfl⟩ (by
    rintro i en h hi ⟨d, z, rfl, rfl, dl, de⟩
    have a8 := fun h => a7 i h hi
    have ll := ll i hi
    have e1 : s - i = (s - (i + 1)) + 1 := by omega
    rw [e1, Dv.dkF, show s - (s - (i + 1) + 1) = i by omega] at de
    generalize Dv.ledB b s i w = j at *
    have ks := ks_nat (h := [.lst [.int 0], .lst (d.map vN)]) (n := 1) (i := j) (x := .int (i : Nat)) (xs := d.map vN) rfl (by simp; omega)
    refine ⟨.int (i : Nat), [some V, some (.int (s : Nat)), some (.int (e : Nat)), some (.int (w : Nat)), some (.loc 1), some (.int (i : Nat))], [.lst [.int 0], .lst ((d.set j i).map vN)], by simp [hi], ?_, d.set j i, some (.int (i : Nat)), rfl, rfl, by simpa using dl, de⟩
    have e3 : (d.map vN).set j (.int (i : Nat)) = (d.set j i).map vN := by rw [List.map_set]; rfl
    rw [e3] at ks
    have c1 : ∀ h, sCall G__led 4 [0, 1, 2, 3] (sCons (sVar 0) (sCons (sVar 1) (sCons (sVar 5) (sCons (sVar 3) sNil)))) [some V, some (.int (s : Nat)), some (.int (e : Nat)), some (.int (w : Nat)), some (.loc 1), some (.int (i : Nat))] h = .ok (.int (j : Nat)) h := fun h => by simp [a8]
    have bd : sAsg (sVar 5) (gSb (sVar 4) (sCall G__led 4 [0, 1, 2, 3] (sCons (sVar 0) (sCons (sVar 1) (sCons (sVar 5) (sCons (sVar 3) sNil)))))) [some V, some (.int (s : Nat)), some (.int (e : Nat)), some (.int (w : Nat)), some (.loc 1), some (.int (i : Nat))] [.lst [.int 0], .lst (d.map vN)] = .nx [some V, some (.int (s : Nat)), some (.int (e : Nat)), some (.int (w : Nat)), some (.loc 1), some (.int (i : Nat))] ([.lst [.int 0], .lst (d.map vN)].set 1 (.lst ((d.set j i).map vN))) := by
      rw [sAsg_ap, sV5, fwdS_ok, gSb_ap, sV4, fwd_ok, c1, fwd_ok, ks]
    have tg : gNm 5 (.int (i : Nat)) [some V, some (.int (s : Nat)), some (.int (e : Nat)), some (.int (w : Nat)), some (.loc 1), z] [.lst [.int 0], .lst (d.map vN)] = .ok [some V, some (.int (s : Nat)), some (.int (e : Nat)), some (.int (w : Nat)), some (.loc 1), some (.int (i : Nat))] [.lst [.int 0], .lst (d.map vN)] := by simp
    rw [stp_go tg, bd]
    rfl) (by
    rintro en h ⟨d, z, rfl, rfl, _⟩
    simp)
  rw [Nat.sub_self, Dv.dkF] at de
  simp [kTpl, lsA, de]
end Dk

set_option Elab.async false
set_option linter.all false
set_option maxRecDepth 100000
set_option maxHeartbeats 4000000
set_option autoImplicit false
namespace Dv
def ordB : List (List Nat) :=  [[1, 2, 4, 3, 6, 10, 12, 4, 8, 18, 6, 11, 20, 18, 28, 5, 10, 12, 36, 12, 20, 14, 12, 23, 21, 8, 52, 20, 18, 58], [2, 4, 3, 6, 10, 12, 4, 8, 18, 6, 11, 20, 18, 28, 5, 10, 12, 36, 12, 20, 14, 12, 23, 21, 8, 52, 20, 18, 58, 60]]
def lpsB : List (List (List (List Nat))) :=  [[[[0], [1]], [[0], [1, 2], [3]], [[0], [1, 2, 4, 3], [5]], [[0], [1, 2, 4], [3, 6, 5], [7]], [[0], [1, 2, 4, 8, 7, 5], [3, 6], [9]], [[0], [1, 2, 4, 8, 5, 10, 9, 7, 3, 6], [11]], [[0], [1, 2, 4, 8, 3, 6, 12, 11, 9, 5, 10, 7], [13]], [[0], [1, 2, 4, 8], [3, 6, 12, 9], [5, 10], [7, 14, 13, 11], [15]], [[0], [1, 2, 4, 8, 16, 15, 13, 9], [3, 6, 12, 7, 14, 11, 5, 10], [17]], [[0], [1, 2, 4, 8, 16, 13, 7, 14, 9, 18, 17, 15, 11, 3, 6, 12, 5, 10], [19]], [[0], [1, 2, 4, 8, 16, 11], [3, 6, 12], [5, 10, 20, 19, 17, 13], [7, 14], [9, 18, 15], [21]], [[0], [1, 2, 4, 8, 16, 9, 18, 13, 3, 6, 12], [5, 10, 20, 17, 11, 22, 21, 19, 15, 7, 14], [23]], [[0], [1, 2, 4, 8, 16, 7, 14, 3, 6, 12, 24, 23, 21, 17, 9, 18, 11, 22, 19, 13], [5, 10, 20, 15], [25]], [[0], [1, 2, 4, 8, 16, 5, 10, 20, 13, 26, 25, 23, 19, 11, 22, 17, 7, 14], [3, 6, 12, 24, 21, 15], [9, 18], [27]], [[0], [1, 2, 4, 8, 16, 3, 6, 12, 24, 19, 9, 18, 7, 14, 28, 27, 25, 21, 13, 26, 23, 17, 5, 10, 20, 11, 22, 15], [29]], [[0], [1, 2, 4, 8, 16], [3, 6, 12, 24, 17], [5, 10, 20, 9, 18], [7, 14, 28, 25, 19], [11, 22, 13, 26, 21], [15, 30, 29, 27, 23], [31]], [[0], [1, 2, 4, 8, 16, 32, 31, 29, 25, 17], [3, 6, 12, 24, 15, 30, 27, 21, 9, 18], [5, 10, 20, 7, 14, 28, 23, 13, 26, 19], [11, 22], [33]], [[0], [1, 2, 4, 8, 16, 32, 29, 23, 11, 22, 9, 18], [3, 6, 12, 24, 13, 26, 17, 34, 33, 31, 27, 19], [5, 10, 20], [7, 14, 28, 21], [15, 30, 25], [35]], [[0], [1, 2, 4, 8, 16, 32, 27, 17, 34, 31, 25, 13, 26, 15, 30, 23, 9, 18, 36, 35, 33, 29, 21, 5, 10, 20, 3, 6, 12, 24, 11, 22, 7, 14, 28, 19], [37]], [[0], [1, 2, 4, 8, 16, 32, 25, 11, 22, 5, 10, 20], [3, 6, 12, 24, 9, 18, 36, 33, 27, 15, 30, 21], [7, 14, 28, 17, 34, 29, 19, 38, 37, 35, 31, 23], [13, 26], [39]], [[0], [1, 2, 4, 8, 16, 32, 23, 5, 10, 20, 40, 39, 37, 33, 25, 9, 18, 36, 31, 21], [3, 6, 12, 24, 7, 14, 28, 15, 30, 19, 38, 35, 29, 17, 34, 27, 13, 26, 11, 22], [41]], [[0], [1, 2, 4, 8, 16, 32, 21, 42, 41, 39, 35, 27, 11, 22], [3, 6, 12, 24, 5, 10, 20, 40, 37, 31, 19, 38, 33, 23], [7, 14, 28, 13, 26, 9, 18, 36, 29, 15, 30, 17, 34, 25], [43]], [[0], [1, 2, 4, 8, 16, 32, 19, 38, 31, 17, 34, 23], [3, 6, 12, 24], [5, 10, 20, 40, 35, 25], [7, 14, 28, 11, 22, 44, 43, 41, 37, 29, 13, 26], [9, 18, 36, 27], [15, 30], [21, 42, 39, 33], [45]], [[0], [1, 2, 4, 8, 16, 32, 17, 34, 21, 42, 37, 27, 7, 14, 28, 9, 18, 36, 25, 3, 6, 12, 24], [5, 10, 20, 40, 33, 19, 38, 29, 11, 22, 44, 41, 35, 23, 46, 45, 43, 39, 31, 15, 30, 13, 26], [47]], [[0], [1, 2, 4, 8, 16, 32, 15, 30, 11, 22, 44, 39, 29, 9, 18, 36, 23, 46, 43, 37, 25], [3, 6, 12, 24, 48, 47, 45, 41, 33, 17, 34, 19, 38, 27, 5, 10, 20, 40, 31, 13, 26], [7, 14, 28], [21, 42, 35], [49]], [[0], [1, 2, 4, 8, 16, 32, 13, 26], [3, 6, 12, 24, 48, 45, 39, 27], [5, 10, 20, 40, 29, 7, 14, 28], [9, 18, 36, 21, 42, 33, 15, 30], [11, 22, 44, 37, 23, 46, 41, 31], [17, 34], [19, 38, 25, 50, 49, 47, 43, 35], [51]], [[0], [1, 2, 4, 8, 16, 32, 11, 22, 44, 35, 17, 34, 15, 30, 7, 14, 28, 3, 6, 12, 24, 48, 43, 33, 13, 26, 52, 51, 49, 45, 37, 21, 42, 31, 9, 18, 36, 19, 38, 23, 46, 39, 25, 50, 47, 41, 29, 5, 10, 20, 40, 27], [53]], [[0], [1, 2, 4, 8, 16, 32, 9, 18, 36, 17, 34, 13, 26, 52, 49, 43, 31, 7, 14, 28], [3, 6, 12, 24, 48, 41, 27, 54, 53, 51, 47, 39, 23, 46, 37, 19, 38, 21, 42, 29], [5, 10, 20, 40, 25, 50, 45, 35, 15, 30], [11, 22, 44, 33], [55]], [[0], [1, 2, 4, 8, 16, 32, 7, 14, 28, 56, 55, 53, 49, 41, 25, 50, 43, 29], [3, 6, 12, 24, 48, 39, 21, 42, 27, 54, 51, 45, 33, 9, 18, 36, 15, 30], [5, 10, 20, 40, 23, 46, 35, 13, 26, 52, 47, 37, 17, 34, 11, 22, 44, 31], [19, 38], [57]], [[0], [1, 2, 4, 8, 16, 32, 5, 10, 20, 40, 21, 42, 25, 50, 41, 23, 46, 33, 7, 14, 28, 56, 53, 47, 35, 11, 22, 44, 29, 58, 57, 55, 51, 43, 27, 54, 49, 39, 19, 38, 17, 34, 9, 18, 36, 13, 26, 52, 45, 31, 3, 6, 12, 24, 48, 37, 15, 30], [59]]], [[[0, 1]], [[0, 1, 3, 2]], [[0, 1, 3], [2, 5, 4]], [[0, 1, 3, 7, 6, 4], [2, 5]], [[0, 1, 3, 7, 4, 9, 8, 6, 2, 5]], [[0, 1, 3, 7, 2, 5, 11, 10, 8, 4, 9, 6]], [[0, 1, 3, 7], [2, 5, 11, 8], [4, 9], [6, 13, 12, 10]], [[0, 1, 3, 7, 15, 14, 12, 8], [2, 5, 11, 6, 13, 10, 4, 9]], [[0, 1, 3, 7, 15, 12, 6, 13, 8, 17, 16, 14, 10, 2, 5, 11, 4, 9]], [[0, 1, 3, 7, 15, 10], [2, 5, 11], [4, 9, 19, 18, 16, 12], [6, 13], [8, 17, 14]], [[0, 1, 3, 7, 15, 8, 17, 12, 2, 5, 11], [4, 9, 19, 16, 10, 21, 20, 18, 14, 6, 13]], [[0, 1, 3, 7, 15, 6, 13, 2, 5, 11, 23, 22, 20, 16, 8, 17, 10, 21, 18, 12], [4, 9, 19, 14]], [[0, 1, 3, 7, 15, 4, 9, 19, 12, 25, 24, 22, 18, 10, 21, 16, 6, 13], [2, 5, 11, 23, 20, 14], [8, 17]], [[0, 1, 3, 7, 15, 2, 5, 11, 23, 18, 8, 17, 6, 13, 27, 26, 24, 20, 12, 25, 22, 16, 4, 9, 19, 10, 21, 14]], [[0, 1, 3, 7, 15], [2, 5, 11, 23, 16], [4, 9, 19, 8, 17], [6, 13, 27, 24, 18], [10, 21, 12, 25, 20], [14, 29, 28, 26, 22]], [[0, 1, 3, 7, 15, 31, 30, 28, 24, 16], [2, 5, 11, 23, 14, 29, 26, 20, 8, 17], [4, 9, 19, 6, 13, 27, 22, 12, 25, 18], [10, 21]], [[0, 1, 3, 7, 15, 31, 28, 22, 10, 21, 8, 17], [2, 5, 11, 23, 12, 25, 16, 33, 32, 30, 26, 18], [4, 9, 19], [6, 13, 27, 20], [14, 29, 24]], [[0, 1, 3, 7, 15, 31, 26, 16, 33, 30, 24, 12, 25, 14, 29, 22, 8, 17, 35, 34, 32, 28, 20, 4, 9, 19, 2, 5, 11, 23, 10, 21, 6, 13, 27, 18]], [[0, 1, 3, 7, 15, 31, 24, 10, 21, 4, 9, 19], [2, 5, 11, 23, 8, 17, 35, 32, 26, 14, 29, 20], [6, 13, 27, 16, 33, 28, 18, 37, 36, 34, 30, 22], [12, 25]], [[0, 1, 3, 7, 15, 31, 22, 4, 9, 19, 39, 38, 36, 32, 24, 8, 17, 35, 30, 20], [2, 5, 11, 23, 6, 13, 27, 14, 29, 18, 37, 34, 28, 16, 33, 26, 12, 25, 10, 21]], [[0, 1, 3, 7, 15, 31, 20, 41, 40, 38, 34, 26, 10, 21], [2, 5, 11, 23, 4, 9, 19, 39, 36, 30, 18, 37, 32, 22], [6, 13, 27, 12, 25, 8, 17, 35, 28, 14, 29, 16, 33, 24]], [[0, 1, 3, 7, 15, 31, 18, 37, 30, 16, 33, 22], [2, 5, 11, 23], [4, 9, 19, 39, 34, 24], [6, 13, 27, 10, 21, 43, 42, 40, 36, 28, 12, 25], [8, 17, 35, 26], [14, 29], [20, 41, 38, 32]], [[0, 1, 3, 7, 15, 31, 16, 33, 20, 41, 36, 26, 6, 13, 27, 8, 17, 35, 24, 2, 5, 11, 23], [4, 9, 19, 39, 32, 18, 37, 28, 10, 21, 43, 40, 34, 22, 45, 44, 42, 38, 30, 14, 29, 12, 25]], [[0, 1, 3, 7, 15, 31, 14, 29, 10, 21, 43, 38, 28, 8, 17, 35, 22, 45, 42, 36, 24], [2, 5, 11, 23, 47, 46, 44, 40, 32, 16, 33, 18, 37, 26, 4, 9, 19, 39, 30, 12, 25], [6, 13, 27], [20, 41, 34]], [[0, 1, 3, 7, 15, 31, 12, 25], [2, 5, 11, 23, 47, 44, 38, 26], [4, 9, 19, 39, 28, 6, 13, 27], [8, 17, 35, 20, 41, 32, 14, 29], [10, 21, 43, 36, 22, 45, 40, 30], [16, 33], [18, 37, 24, 49, 48, 46, 42, 34]], [[0, 1, 3, 7, 15, 31, 10, 21, 43, 34, 16, 33, 14, 29, 6, 13, 27, 2, 5, 11, 23, 47, 42, 32, 12, 25, 51, 50, 48, 44, 36, 20, 41, 30, 8, 17, 35, 18, 37, 22, 45, 38, 24, 49, 46, 40, 28, 4, 9, 19, 39, 26]], [[0, 1, 3, 7, 15, 31, 8, 17, 35, 16, 33, 12, 25, 51, 48, 42, 30, 6, 13, 27], [2, 5, 11, 23, 47, 40, 26, 53, 52, 50, 46, 38, 22, 45, 36, 18, 37, 20, 41, 28], [4, 9, 19, 39, 24, 49, 44, 34, 14, 29], [10, 21, 43, 32]], [[0, 1, 3, 7, 15, 31, 6, 13, 27, 55, 54, 52, 48, 40, 24, 49, 42, 28], [2, 5, 11, 23, 47, 38, 20, 41, 26, 53, 50, 44, 32, 8, 17, 35, 14, 29], [4, 9, 19, 39, 22, 45, 34, 12, 25, 51, 46, 36, 16, 33, 10, 21, 43, 30], [18, 37]], [[0, 1, 3, 7, 15, 31, 4, 9, 19, 39, 20, 41, 24, 49, 40, 22, 45, 32, 6, 13, 27, 55, 52, 46, 34, 10, 21, 43, 28, 57, 56, 54, 50, 42, 26, 53, 48, 38, 18, 37, 16, 33, 8, 17, 35, 12, 25, 51, 44, 30, 2, 5, 11, 23, 47, 36, 14, 29]], [[0, 1, 3, 7, 15, 31, 2, 5, 11, 23, 47, 34, 8, 17, 35, 10, 21, 43, 26, 53, 46, 32, 4, 9, 19, 39, 18, 37, 14, 29, 59, 58, 56, 52, 44, 28, 57, 54, 48, 36, 12, 25, 51, 42, 24, 49, 38, 16, 33, 6, 13, 27, 55, 50, 40, 20, 41, 22, 45, 30]]]]
def bn (b : Bool) : Nat := if b then 1 else 0
def oB (b : Bool) (k : Nat) : Nat := (ordB[bn b]?.getD [])[k]?.getD 0
def lB (b : Bool) (k : Nat) : List (List Nat) := (lpsB[bn b]?.getD [])[k]?.getD []
/-- a loop is led round -/
def lpOk (b : Bool) (s : Nat) (l : List Nat) : Bool := match l with
  | [] => false
  | x :: r => decide (l.map (stB b s) = r ++ [x]) && decide (∀ y ∈ r, x ≤ y) && decide (∀ y ∈ l, y < s)
/-- ascending -/
def up : List Nat → Bool
  | [] => true
  | [_] => true
  | a :: b :: r => decide (a ≤ b) && up (b :: r)
def t1 (b : Bool) (k : Nat) : Bool := (lB b k).all (lpOk b (2 * (1 + k))) && decide (((lB b k).map List.length).sum = 2 * (1 + k)) && up ((lB b k).map (fun l => l.head?.getD 0)) && decide (0 < oB b k ∧ oB b k ≤ 60 ∧ (lB b k).length ≤ 60)
/-- the order is the least one -/
def t2 (b : Bool) (k : Nat) : Bool := decide (2 ^ oB b k % md b (2 * (1 + k)) = 1 % md b (2 * (1 + k))) && (List.range (oB b k)).all fun e => decide (e = 0 ∨ ledB b (2 * (1 + k)) (1 - bn b) (2 ^ e % md b (2 * (1 + k))) ≠ 1 - bn b)
end Dv
namespace Dk
open PySem PySem.Spec L2 Fw Pg
open PyProof.Rows hiding St
theorem lpsB_all : ([false, true].all fun b => (List.range 30).all fun k => isT (R_loops [Wd b, .int (2 * (1 + k) : Nat)] []) (Dv.lB b k)) = true := by decide +kernel
theorem bmem (b : Bool) : b ∈ [false, true] := by cases b <;> simp
theorem lfW (b : Bool) (x : Va) (h : lf x = true) : lfL [Wd b, x] = true := by cases b <;> simp [Wd, lfL, lf, h]
theorem loopsB {b : Bool} {k : Nat} {h : Hs} (l : k < 30) : G_loops [Wd b, .int (2 * (1 + k) : Nat)] h = .ok (.tup ((Dv.lB b k).map fun x => Va.tup (x.map fun n => Va.int (n : Nat)))) h := by
  obtain ⟨h', e⟩ := isT_of (List.all_eq_true.mp (List.all_eq_true.mp lpsB_all b (bmem b)) k (List.mem_range.mpr l))
  exact pure_of (lfW b _ rfl) e (lf_tups _)
end Dk

set_option Elab.async false
set_option linter.all false
set_option maxRecDepth 100000
set_option maxHeartbeats 4000000
set_option autoImplicit false
namespace Dw
/-! ### rounds -/
/-- mates below N: each the mate of its mate, of the other kind -/
structure Mt (N : Nat) (u : Nat → Nat) : Prop where
  lt : ∀ x, x < N → u x < N
  inv : ∀ x, x < N → u (u x) = x
  par : ∀ x, x < N → (x + u x) % 2 = 1
def mt (f : Fo) (x : Nat) : Nat := (M 0 f)[x]?.getD 0
/-- going along from a foot, the upper arch first -/
def wk (u l : Nat → Nat) (f : Nat) : Nat → Nat → List Nat
  | 0, _ => []
  | k + 1, x => x :: u x :: (if l (u x) = f then [] else wk u l f k (l (u x)))
def walk (u l : Nat → Nat) (N f : Nat) : List Nat := wk u l f N f
def it2 (u l : Nat → Nat) : Nat → Nat → Nat
  | 0, x => x
  | k + 1, x => it2 u l k (l (u x))
theorem it2_succ (u l : Nat → Nat) : ∀ (k x : Nat), it2 u l (k + 1) x = l (u (it2 u l k x))
  | 0, x => rfl
  | k + 1, x => by
    show it2 u l (k + 1) (l (u x)) = l (u (it2 u l k (l (u x))))
    exact it2_succ u l k _
theorem it2_add (u l : Nat → Nat) (x : Nat) : ∀ (j k : Nat), it2 u l (j + k) x = it2 u l j (it2 u l k x)
  | 0, k => by simp [it2]
  | j + 1, k => by rw [show j + 1 + k = (j + k) + 1 by omega, it2_succ, it2_succ, it2_add u l x j k]
section
variable {N : Nat} {u l : Nat → Nat} (mu : Mt N u) (ml : Mt N l)
include mu ml
theorem it2_lt {f : Nat} (h : f < N) : ∀ k, it2 u l k f < N
  | 0 => h
  | k + 1 => by
    rw [it2_succ]
    exact ml.lt _ (mu.lt _ (it2_lt h k))
theorem it2_inj {x y : Nat} (hx : x < N) (hy : y < N) : ∀ k, it2 u l k x = it2 u l k y → x = y
  | 0, e => e
  | k + 1, e => by
    rw [it2_succ, it2_succ] at e
    have a := it2_lt mu ml hx k
    have b := it2_lt mu ml hy k
    have e1 := congrArg l e
    rw [ml.inv _ (mu.lt _ a), ml.inv _ (mu.lt _ b)] at e1
    have e2 := congrArg u e1
    rw [mu.inv _ a, mu.inv _ b] at e2
    exact it2_inj hx hy k e2
end
theorem nodup_le : ∀ (N : Nat) (xs : List Nat), xs.Nodup → (∀ x ∈ xs, x < N) → xs.length ≤ N
  | 0, [], _, _ => by simp
  | 0, x :: xs, _, h => by have := h x (by simp); omega
  | N + 1, xs, nd, h => by
    have l1 := nodup_le N (xs.erase N) (nd.erase N) (fun x m => by
      have m2 := (nd.mem_erase_iff.mp m)
      have := h x m2.2
      omega)
    by_cases c : N ∈ xs
    · rw [List.length_erase_of_mem c] at l1
      omega
    · rw [List.erase_of_not_mem c] at l1
      omega
section
variable {N : Nat} {u l : Nat → Nat} (mu : Mt N u) (ml : Mt N l)
include mu ml
/-- who goes along comes back -/
theorem back {f : Nat} (h : f < N) : ∃ k, 0 < k ∧ k ≤ N ∧ it2 u l k f = f := by
  refine Classical.byContradiction fun no => ?_
  have no : ∀ k, 0 < k → k ≤ N → it2 u l k f ≠ f := fun k h0 h1 e => no ⟨k, h0, h1, e⟩
  have nd : ((List.range (N + 1)).map fun k => it2 u l k f).Nodup := by
    rw [List.nodup_iff_pairwise_ne, List.pairwise_map]
    refine (List.pairwise_lt_range (n := N + 1)).imp_of_mem ?_
    intro a b ha hb hab e
    have hb := List.mem_range.mp hb
    rw [show b = a + (b - a) by omega, it2_add] at e
    have e2 := it2_inj mu ml h (it2_lt mu ml h (b - a)) a e
    exact no (b - a) (by omega) (by omega) e2.symm
  have := nodup_le N _ nd (fun x m => by
    obtain ⟨k, _, rfl⟩ := List.mem_map.mp m
    exact it2_lt mu ml h k)
  simp at this
  omega
/-- the feet of a round as they are met -/
def fts (u l : Nat → Nat) (f k : Nat) : List Nat := ((List.range k).map fun j => [it2 u l j f, u (it2 u l j f)]).flatten
end
/-! ### all rounds, foot by foot -/
def insN (x : Nat) : List Nat → List Nat
  | [] => [x]
  | y :: ys => if x ≤ y then x :: y :: ys else y :: insN x ys
def srtN : List Nat → List Nat
  | [] => []
  | x :: xs => insN x (srtN xs)
def rgo (u l : Nat → Nat) (N : Nat) : List Nat → List Nat → List (List Nat)
  | [], _ => []
  | f :: fs, met => if met.contains f = true then rgo u l N fs met else srtN (walk u l N f) :: rgo u l N fs (met ++ walk u l N f)
/-- the rounds of two rows -/
def rds (u l : Nat → Nat) (N : Nat) : List (List Nat) := rgo u l N (List.range N) []
end Dw

set_option Elab.async false
set_option linter.all false
set_option maxRecDepth 100000
set_option maxHeartbeats 4000000
set_option autoImplicit false
namespace Dv
/-- the three shuffles: 0 out, 1 in, 2 fold -/
def md3 (w s : Nat) : Nat := if w = 2 then 2 * s - 1 else if w = 1 then s + 1 else s - 1
def led3 (w s p x : Nat) : Nat := if w = 2 then led s p x else if w = 1 then ledI s p x else ledO s p x
def st3 (w s p : Nat) : Nat := if w = 2 then hs3 s p else if w = 1 then stI s p else stO s p
where hs3 (s h : Nat) : Nat := if 2 * h < s then 2 * h else 2 * s - 1 - 2 * h
def hit (w m n : Nat) : Prop := 2 ^ n % m = 1 % m ∨ (w = 2 ∧ 2 ^ n % m = m - 1)
instance (w m n : Nat) : Decidable (hit w m n) := by unfold hit; infer_instance
theorem md3_odd {w s : Nat} (w3 : w < 3) (s0 : 2 ≤ s) (s2 : s % 2 = 0) : md3 w s % 2 = 1 := by
  unfold md3; split
  · omega
  · split <;> omega
theorem md3_le {w s : Nat} : md3 w s ≤ 2 * s + 1 := by
  unfold md3; split
  · omega
  · split <;> omega
theorem foldF {s p e : Nat} (s0 : 2 ≤ s) (p1 : p < s) : st3.hs3 s (led s p (2 ^ e % (2 * s - 1))) = led s p (2 ^ (e + 1) % (2 * s - 1)) := by
  unfold led st3.hs3
  simp only []
  rw [up_mod]
  have h := Nat.mod_lt (2 * p * (2 ^ e % (2 * s - 1))) (show 0 < 2 * s - 1 by omega)
  generalize 2 * p * (2 ^ e % (2 * s - 1)) % (2 * s - 1) = t at *
  rw [dbl h]
  by_cases d : 2 * t < 2 * s - 1
  · rw [if_pos d, if_pos (show 2 * t % 2 = 0 by omega)]
    by_cases c : t % 2 = 0
    · rw [if_pos c, if_pos (by omega)]; omega
    · rw [if_neg c, if_neg (by omega)]; omega
  · rw [if_neg d, if_neg (show ¬ (2 * t - (2 * s - 1)) % 2 = 0 by omega)]
    by_cases c : t % 2 = 0
    · rw [if_pos c, if_neg (by omega)]; omega
    · rw [if_neg c, if_pos (by omega)]; omega
theorem step3 {w s p e : Nat} (w3 : w < 3) (s0 : 2 ≤ s) (s2 : s % 2 = 0) (p1 : p < s) : st3 w s (led3 w s p (2 ^ e % md3 w s)) = led3 w s p (2 ^ (e + 1) % md3 w s) := by
  unfold st3 led3 md3
  by_cases a : w = 2
  · simp only [a, if_true]; exact foldF s0 p1
  · by_cases b : w = 1
    · simp only [a, b, if_true, if_false]; exact stepI s0 s2 p1
    · simp only [a, b, if_false]; exact stepO s0 s2 p1
theorem led3_lt {w s p x : Nat} (s0 : 2 ≤ s) (p1 : p < s) : led3 w s p x < s := by
  unfold led3
  split
  · exact led_lt s0
  · split
    · exact ledB_lt (b := true) s0 p1
    · exact ledB_lt (b := false) s0 p1
theorem led3_zero {w s p : Nat} (s0 : 2 ≤ s) (p1 : p < s) : led3 w s p (2 ^ 0 % md3 w s) = p := by
  unfold led3 md3
  rw [Nat.pow_zero]
  by_cases a : w = 2
  · rw [if_pos a, if_pos a]
    unfold led
    simp only []
    rw [Nat.mod_eq_of_lt (show 1 < 2 * s - 1 by omega), Nat.mul_one, Nat.mod_eq_of_lt (show 2 * p < 2 * s - 1 by omega), if_pos (by omega)]
    omega
  · rw [if_neg a, if_neg a]
    by_cases b : w = 1
    · rw [if_pos b, if_pos b]
      unfold ledI
      rw [Nat.mod_eq_of_lt (show 1 < s + 1 by omega), Nat.mul_one, Nat.mod_eq_of_lt (show p + 1 < s + 1 by omega)]
      omega
    · rw [if_neg b, if_neg b]
      unfold ledO
      by_cases c : p = s - 1
      · rw [if_pos c]
      · rw [if_neg c, Nat.mul_mod, Nat.mod_mod, ← Nat.mul_mod, Nat.mul_one, Nat.mod_eq_of_lt (show p < s - 1 by omega)]
theorem home3 {w s p n : Nat} (w3 : w < 3) (s0 : 2 ≤ s) (p1 : p < s) (h : hit w (md3 w s) n) : led3 w s p (2 ^ n % md3 w s) = p := by
  rcases h with h | ⟨rfl, h⟩
  · rw [h]
    exact led3_zero s0 p1
  · rw [h]
    show led s p (2 * s - 1 - 1) = p
    unfold led
    simp only []
    by_cases c : p = 0
    · subst c
      simp
    · have e : 2 * p * (2 * s - 1 - 1) = (2 * s - 1 - 2 * p) + (2 * s - 1) * (2 * p - 1) := by
        obtain ⟨q, rfl⟩ : ∃ q, p = q + 1 := ⟨p - 1, by omega⟩
        obtain ⟨t, rfl⟩ : ∃ t, s = q + 1 + (t + 1) := ⟨s - q - 2, by omega⟩
        rw [show 2 * (q + 1 + (t + 1)) - 1 - 1 = 2 * q + 2 * t + 2 by omega, show 2 * (q + 1 + (t + 1)) - 1 - 2 * (q + 1) = 2 * t + 1 by omega, show 2 * (q + 1 + (t + 1)) - 1 = 2 * q + 2 * t + 3 by omega, show 2 * (q + 1) - 1 = 2 * q + 1 by omega]
        simp only [Nat.mul_add, Nat.add_mul, Nat.mul_one, Nat.one_mul]
        have : 2 * q * (2 * t) = 2 * t * (2 * q) := Nat.mul_comm _ _
        omega
      rw [e, Nat.add_mul_mod_self_left, Nat.mod_eq_of_lt (show 2 * s - 1 - 2 * p < 2 * s - 1 by omega), if_neg (by omega)]
      omega
theorem sq_one {w s n : Nat} (w3 : w < 3) (s0 : 2 ≤ s) (h : hit w (md3 w s) n) : 2 ^ (2 * n) % md3 w s = 1 % md3 w s := by
  rw [Nat.mul_comm, Nat.pow_mul, Nat.pow_mod]
  rcases h with h | ⟨rfl, h⟩
  · rw [h, ← Nat.pow_mod]
  · rw [h]
    have m3 : 3 ≤ md3 2 s := by show 3 ≤ 2 * s - 1; omega
    generalize md3 2 s = m at *
    obtain ⟨k, rfl⟩ : ∃ k, m = k + 1 := ⟨m - 1, by omega⟩
    have e : (k + 1 - 1) ^ 2 = 1 + (k + 1) * (k - 1) := by
      obtain ⟨j, rfl⟩ : ∃ j, k = j + 1 := ⟨k - 1, by omega⟩
      rw [show j + 1 + 1 - 1 = j + 1 by omega, show j + 1 - 1 = j by omega, Nat.pow_succ, Nat.pow_one]
      simp only [Nat.mul_add, Nat.add_mul, Nat.mul_one, Nat.one_mul]
      omega
    rw [e, Nat.add_mul_mod_self_left]
theorem far3 {w s n t : Nat} (w3 : w < 3) (s0 : 2 ≤ s) (h : hit w (md3 w s) n) : 2 ^ (t + n * 10 ^ 20) % md3 w s = 2 ^ t % md3 w s := by
  have q := sq_one w3 s0 h
  rw [show n * 10 ^ 20 = 2 * n * (5 * 10 ^ 19) by rw [show (10 : Nat) ^ 20 = 2 * (5 * 10 ^ 19) by decide]; rw [Nat.mul_comm 2 n, Nat.mul_assoc], Nat.pow_add, Nat.pow_mul, Nat.mul_mod, Nat.pow_mod (2 ^ (2 * n)), q, ← Nat.pow_mod, Nat.one_pow, ← Nat.mul_mod, Nat.mul_one]
/-- some power of two is 1 again -/
theorem ord_ex3 {m : Nat} (o : m % 2 = 1) : ∃ n, 1 ≤ n ∧ n ≤ m ∧ 2 ^ n % m = 1 % m := by
  have m0 : 0 < m := by omega
  apply Classical.byContradiction
  intro no
  have ne : ∀ i j, i < j → j ≤ m → 2 ^ i % m ≠ 2 ^ j % m := fun i j ij jm e => by
    apply no
    refine ⟨j - i, by omega, by omega, ?_⟩
    refine inj_mul (Nat.mod_lt _ m0) (Nat.mod_lt _ m0) (co_pow (e := i) o) ?_
    rw [← Nat.mul_mod, ← Nat.mul_mod, ← Nat.pow_add, Nat.one_mul, show j - i + i = j by omega, e]
  have nd : ((List.range (m + 1)).map fun i => 2 ^ i % m).Nodup := by
    rw [List.Nodup, List.pairwise_map]
    refine List.Pairwise.imp_of_mem ?_ List.pairwise_lt_range
    intro a b ha hb ab
    exact ne a b ab (by have := List.mem_range.mp hb; omega)
  have := Dw.nodup_le m _ nd (fun x hx => by
    obtain ⟨i, _, rfl⟩ := List.mem_map.mp hx
    exact Nat.mod_lt _ m0)
  rw [List.length_map, List.length_range] at this
  omega
/-- the least one -/
theorem ord_least {w m : Nat} (o : m % 2 = 1) : ∃ n, 1 ≤ n ∧ n ≤ m ∧ hit w m n ∧ ∀ j, 1 ≤ j → j < n → ¬ hit w m j := by
  obtain ⟨N, n1, nm, h⟩ := ord_ex3 o
  have go : ∀ k, (∃ n, 1 ≤ n ∧ n ≤ k ∧ hit w m n) → ∃ n, 1 ≤ n ∧ n ≤ k ∧ hit w m n ∧ ∀ j, 1 ≤ j → j < n → ¬ hit w m j := by
    intro k
    induction k with
    | zero => rintro ⟨n, a, b, _⟩; omega
    | succ k ih =>
      rintro ⟨n, a, b, c⟩
      by_cases q : ∃ n, 1 ≤ n ∧ n ≤ k ∧ hit w m n
      · obtain ⟨n', x1, x2, x3, x4⟩ := ih q
        exact ⟨n', x1, by omega, x3, x4⟩
      · refine ⟨n, a, b, c, fun j j1 jn hj => q ⟨j, j1, by omega, hj⟩⟩
  obtain ⟨n, a, b, c, d⟩ := go N ⟨N, n1, Nat.le_refl _, .inl h⟩
  exact ⟨n, a, by omega, c, d⟩
end Dv

set_option Elab.async false
set_option linter.all false
set_option maxRecDepth 100000
set_option maxHeartbeats 2000000
set_option autoImplicit false
namespace Jr
open PySem PySem.Spec L2 Fw Pg
open PyProof.Rows hiding St
def b__law_jar : Ss :=
  (seq (sSet 2 (s2 kAdd (sK (.int 80021)) (s2 kMul (sK (.int 9007)) (sVar 1))))
  (seq (sFor (sItr (sSl (sVar 0) sNo (sSo (sK (.int 9))))) (gNm 3)
  (sSet 2 (s2 kMod (sBlt kInt (sCons (s2 kAdd (s2 kAdd (s2 kMul (sVar 2) (sK (.int 33013))) (sBlt kInt (sCons (sVar 3) sNil))) (sK (.int 29))) sNil)) (sK (.int 2147483407)))))
  (seq (sSet 4 (sIte (sBl (s2 kLt (sVar 1) (sBlt kLen (sCons (sVar 0) sNil)))) (sBlt kInt (sCons (s2 kIx (sVar 0) (sVar 1)) sNil)) (s2 kAdd (s2 kMul (sK (.int 61)) (sVar 1)) (sK (.int 13)))))
  (sRet (sLst (sCons (sIte (sOr (sBl (s2 kLt (sVar 4) (sK (.int 0)))) (sBl (s2 kGe (sVar 4) (s2 kPow (sK (.int 10)) (sK (.int 15)))))) (sBlt kAbs (sCons (sVar 4) sNil)) (sK (.int 0))) (sCons (s2 kMod (sBlt kInt (sCons (s2 kAdd (sVar 2) (s2 kMul (sK (.int 50021)) (sVar 4))) sNil)) (sK (.int 2147483407))) (sCons (sK (.int 0)) sNil))))))))
abbrev R__law_jar : Fn := runB 5 b__law_jar
def G__law_jar : Fn := pureF R__law_jar
def b__law_dip : Ss :=
  (seq (sAsg (s2 kAdd (s2 kIx (sVar 0) (sK (.int 2))) (sK (.int 1))) (gSb (sVar 0) (sK (.int 2))))
  (seq (sIf (sBl (s2 kGt (s2 kIx (sVar 0) (sK (.int 0))) (sK (.int 0))))
  (seq (sAsg (sBlt kDvm (sCons (s2 kIx (sVar 0) (sK (.int 0))) (sCons (sVar 1) sNil))) (gTp 2 (gsCons (gSb (sVar 0) (sK (.int 0))) (gsCons (gNm 2) gsNil))))
  (sRet (sVar 2)))
  skip)
  (seq (sSet 3 (s2 kIx (sVar 0) (sK (.int 1))))
  (seq (sAsg (s2 kMod (sBlt kInt (sCons (s2 kAdd (s2 kAdd (s2 kMul (sBlt kInt (sCons (sVar 3) sNil)) (sK (.int 46021))) (s2 kMul (sK (.int 7507)) (s2 kIx (sVar 0) (sK (.int 2))))) (sK (.int 17))) sNil)) (sK (.int 2147483407))) (gSb (sVar 0) (sK (.int 1))))
  (sRet (s2 kMod (sBlt kInt (sCons (s2 kFdv (s2 kIx (sVar 0) (sK (.int 1))) (sK (.int 1024))) sNil)) (sVar 1)))))))
abbrev R__law_dip : Fn := runB 4 b__law_dip
@[irreducible] def G__law_dip : Fn := R__law_dip
theorem g__law_dip (xs : List Va) (h : Hs) (_ : xs.length = 2) (_ : G__law_dip xs h ≠ .bad) : R__law_dip xs h = G__law_dip xs h := congrFun (congrFun (show R__law_dip = G__law_dip from by unfold G__law_dip; rfl) xs) h
def b__law_pick : Ss :=
  (sRet (s2 kIx (sVar 1) (sCall G__law_dip 2 [0, 1] (sCons (sVar 0) (sCons (sBlt kLen (sCons (sVar 1) sNil)) sNil)))))
abbrev R__law_pick : Fn := runB 2 b__law_pick
@[irreducible] def G__law_pick : Fn := R__law_pick
theorem g__law_pick (xs : List Va) (h : Hs) (_ : xs.length = 2) (_ : G__law_pick xs h ≠ .bad) : R__law_pick xs h = G__law_pick xs h := congrFun (congrFun (show R__law_pick = G__law_pick from by unfold G__law_pick; rfl) xs) h
end Jr

set_option Elab.async false
set_option linter.all false
set_option maxRecDepth 100000
set_option maxHeartbeats 2000000
set_option autoImplicit false
namespace Fw
open PySem PySem.Spec L2
open PyProof.Rows hiding St
section
variable {X : Cx}
end
end Fw

set_option Elab.async false
set_option linter.all false
set_option maxRecDepth 100000
set_option maxHeartbeats 2000000
set_option autoImplicit false
namespace Fw
open PySem PySem.Spec L2
open PyProof.Rows hiding St
end Fw

set_option Elab.async false
set_option linter.all false
set_option maxRecDepth 100000
set_option maxHeartbeats 2000000
set_option autoImplicit false
namespace Fw
open PySem PySem.Spec L2
open PyProof.Rows hiding St
/-! ### runs in a heap of their own, which holds the lists that are handed over -/
mutual
def vaEq : Va → Va → Bool
  | .non, .non => true
  | .bl a, .bl b => a == b
  | .int a, .int b => decide (a = b)
  | .str a, .str b => decide (a = b)
  | .fn a, .fn b => decide (a = b)
  | .tup a, .tup b => vaEqL a b
  | .tpw a, .tpw b => vaEqL a b
  | _, _ => false
def vaEqL : List Va → List Va → Bool
  | [], [] => true
  | x :: xs, y :: ys => vaEq x y && vaEqL xs ys
  | _, _ => false
end
mutual
theorem vaEq_of : ∀ {x y : Va}, vaEq x y = true → x = y
  | .non, y, e => by cases y <;> simp [vaEq] at e ⊢
  | .bl a, y, e => by cases y <;> simp [vaEq] at e ⊢; exact e
  | .int a, y, e => by cases y <;> simp [vaEq] at e ⊢; exact e
  | .str a, y, e => by cases y <;> simp [vaEq] at e ⊢; exact e
  | .fn a, y, e => by cases y <;> simp [vaEq] at e ⊢; exact e
  | .tup a, y, e => by
    cases y <;> simp only [vaEq] at e <;> first | cases e | rw [vaEqL_of e]
  | .tpw a, y, e => by
    cases y <;> simp only [vaEq] at e <;> first | cases e | rw [vaEqL_of e]
  | .ros a, y, e => by cases y <;> simp [vaEq] at e
  | .loc a, y, e => by cases y <;> simp [vaEq] at e
  | .ty a, y, e => by cases y <;> simp [vaEq] at e
  | .rg a b c, y, e => by cases y <;> simp [vaEq] at e
theorem vaEqL_of : ∀ {xs ys : List Va}, vaEqL xs ys = true → xs = ys
  | [], [], _ => rfl
  | x :: xs, y :: ys, e => by
    simp only [vaEqL, Bool.and_eq_true] at e
    rw [vaEq_of e.1, vaEqL_of e.2]
  | [], _ :: _, e => by simp [vaEqL] at e
  | _ :: _, [], e => by simp [vaEqL] at e
end
/-- the places that are handed over -/
structure Lsx (h : Hs) (ls : List Nat) : Prop where
  nd : ls.Nodup
  ok : ∀ n ∈ ls, ∃ ys, h[n]? = some (.lst ys) ∧ lfL ys = true
theorem Lsx.nil (h : Hs) : Lsx h [] := ⟨List.nodup_nil, fun n m => by simp at m⟩
section
variable {C : Ct} {ρ ρ' : List Addr} {H H' : Hp} {h h' : Hs} {ls : List Nat}
theorem XR.lf_ {x : Xn} {cls : Value} {d : Option Addr} (hl : lfL (x.fs.map (·.2)) = true) (xr : XR C ρ' H' x cls d) : XR C ρ H' x cls d := by
  obtain ⟨Cl, m1, m2, dd, vs, m3, m4, m5, m6⟩ := xr
  exact ⟨Cl, m1, m2, dd, vs, m3, m4, m5, m6.lf_ hl⟩
end
section
variable {C : Ct} {ρ : List Addr} {H : Hp} {e : En} {σ : L2.St}
end
section
variable {X : Cx} {W : WX}
end
end Fw
namespace Fw
open PySem PySem.Spec L2
open PyProof.Rows hiding St
end Fw

set_option Elab.async false
set_option linter.all false
set_option maxRecDepth 100000
set_option maxHeartbeats 4000000
set_option autoImplicit false
namespace Fw
open PySem PySem.Spec L2
open PyProof.Rows hiding St
section
variable {X : Cx}
end
end Fw

set_option Elab.async false
set_option linter.all false
set_option maxRecDepth 100000
set_option maxHeartbeats 2000000
set_option autoImplicit false
namespace Fw
open PySem PySem.Spec L2
open PyProof.Rows hiding St
/-! ### the least of a list of texts -/
def leastS : List Nat → List (List Nat) → List Nat
  | m, [] => m
  | m, x :: xs => leastS (if x < m then x else m) xs
theorem cmp_strs {prog : Program} {w : World} {A : Around} {P : Nat → Value → Prop} (val : Nat → Str) (hval : ∀ i v, P i v → ∃ t, v = .str (val i) t) :
    CmpOf prog w A .Lt P (fun i j => decide ((val i).cps.toList < (val j).cps.toList)) := fun i j vi vj s Q E hi hj h => by
  obtain ⟨t, rfl⟩ := hval i vi hi
  obtain ⟨u, rfl⟩ := hval j vj hj
  exact PyProof.Rows.lt_str h
theorem iter_lst {prog : Program} {w : World} {A : Around} {E : Value → Shared → Prop} {s : Shared} {l : Addr} {its : Array Value} {Q : Value → Shared → Prop} (hl : s.heap.IsList l its)
    (h : ∀ s₂ : Shared, s₂ = { s with heap := s.heap.push { cls := .type "list_iterator", data := .fields #[.ref l, .int 0 0] } } →
      (s₂.heap.IsListIter s.heap.objs.size l 0 ∧ s₂.heap.IsList l its) → (∀ b ∈ [s.heap.objs.size, l], b < s₂.heap.objs.size) → l ≠ s.heap.objs.size → Q (.ref s.heap.objs.size) s₂) :
    wpAny (model prog w) A (pyIter (.ref l)) Q E s := by
  have hlt : l < s.heap.objs.size := by obtain ⟨_, e, _⟩ := hl; exact Heap.lt_size e
  refine wpAny_pyIter_list hl (h _ rfl ⟨⟨_, Heap.get?_push_size _ rfl, rfl, rfl⟩, hl.push _⟩ (fun b hb => ?_) (Nat.ne_of_lt hlt))
  show b < (s.heap.push _).objs.size
  rw [Heap.size_push]
  rcases List.mem_cons.mp hb with rfl | hb
  · exact Nat.lt_succ_self _
  · rcases List.mem_cons.mp hb with rfl | hb
    · exact Nat.lt_succ_of_lt hlt
    · cases hb
theorem strs_get : ∀ {us : List Value} {ks : List Str}, StrsAre us ks → ∀ {i : Nat} {v : Value}, us[i]? = some v → ∃ t, v = .str ((ks[i]?).getD ⟨#[]⟩) t
  | _, _, .nil, i, v, e => by simp at e
  | _, _, .cons y t r, 0, v, e => by
    simp at e
    subst e
    exact ⟨t, rfl⟩
  | _, _, .cons y t r, i + 1, v, e => by
    obtain ⟨t', q⟩ := strs_get r (i := i) (v := v) (by simpa using e)
    exact ⟨t', by simpa using q⟩
abbrev mkS (x : List Nat) : Str := ⟨x.toArray⟩
theorem leastS_app : ∀ (xs : List (List Nat)) (m x : List Nat), leastS m (xs ++ [x]) = if x < leastS m xs then x else leastS m xs
  | [], m, x => rfl
  | y :: xs, m, x => by
    rw [List.cons_append, leastS, leastS_app xs, leastS]
theorem argBest_S (x : List Nat) (xs : List (List Nat)) : ∀ k, k ≤ xs.length → ((((x :: xs).map mkS)[argBest (fun i j => decide (((((x :: xs).map mkS)[i]?).getD ⟨#[]⟩).cps.toList < ((((x :: xs).map mkS)[j]?).getD ⟨#[]⟩).cps.toList)) k]?).getD ⟨#[]⟩).cps.toList = leastS x (xs.take k)
  | 0, _ => by simp [argBest, leastS]
  | k + 1, h => by
    have ih := argBest_S x xs k (by omega)
    have ek : (((x :: xs).map mkS)[k + 1]?).getD ⟨#[]⟩ = mkS xs[k] := by simp [show k < xs.length by omega]
    have tk : xs.take (k + 1) = xs.take k ++ [xs[k]] := by rw [List.take_succ_eq_append_getElem (by omega)]
    rw [tk, leastS_app]
    unfold argBest
    simp only [decide_eq_true_eq]
    rw [ek, ih]
    show (((((x :: xs).map mkS)[if xs[k] < leastS x (xs.take k) then k + 1 else _]?).getD ⟨#[]⟩).cps.toList) = _
    by_cases c : xs[k] < leastS x (xs.take k)
    · rw [if_pos c, if_pos c, ek]
    · rw [if_neg c, if_neg c, ih]
def rMinS (K : PySem.W.Frag) : List V → Hp → VK → Prop := fun vs H Q => ∃ (a : Addr) (x : List Nat) (xs : List (List Nat)), vs = [V.ref a] ∧ SqL K H a (((x :: xs).map mkS).map V.str) ∧ Q (.str (mkS (leastS x xs))) H
theorem cr_minS {X : Cx} (hc : X.calm = true) : CallR X (.builtin "min") (rMinS X.K) := by
  intro pins s σ H vs us Q I r h
  obtain ⟨a, x, xs, rfl, hs, q⟩ := h
  obtain ⟨its, rv, hl, _⟩ := I.list hs
  rw [Vals.ref1 r]
  have hi := rv.strs
  have hlen := rv.length
  simp only [List.length_map, List.length_cons] at hlen
  refine call_min_walk (iter_lst hl.isList fun s₂ e st hfp hlI => ?_)
  subst e
  refine ⟨_, _, _, _, _, _, _, rfl, Walks.list (A := X.A.in1) (I.ok.hd hc) _ a hlI its.toArray, st, hfp, by simp; omega, cmp_strs (fun i => (((x :: xs).map mkS)[i]?).getD ⟨#[]⟩) (fun i v h => strs_get hi (by simpa using h)), fun v h' tk hP hk => ?_⟩
  have n1 : its.toArray.size - 1 = xs.length := by simp; omega
  rw [n1, List.getElem?_toArray] at hP
  obtain ⟨t, rfl⟩ := strs_get hi hP
  have e := argBest_S x xs xs.length (Nat.le_refl _)
  rw [List.take_length] at e
  refine ⟨.str (mkS (leastS x xs)), H, I.kept (old_kept hk), ⟨t, ?_⟩, q⟩
  congr 1
  generalize (((x :: xs).map mkS)[argBest (fun i j => decide (((((x :: xs).map mkS)[i]?).getD ⟨#[]⟩).cps.toList < ((((x :: xs).map mkS)[j]?).getD ⟨#[]⟩).cps.toList)) xs.length]?).getD ⟨#[]⟩ = z at *
  cases z
  simp only [mkS] at e ⊢
  rw [← e]
/-- min of a list of texts, or of what kMinL serves -/
def kMinS : List Va → Hs → Rs Va := fun vs h => match vs with
  | [.loc n] => match (lsA (.loc n) h).bind (mapO asS) with
    | some (x :: xs) => .ok (.str (leastS x xs)) h
    | _ => kMinL vs h
  | _ => kMinL vs h
theorem strsK_of : ∀ {C : Ct} {ρ : List Addr} {H : Hp} {ys : List Va} {us : List V} {xs : List (List Nat)}, RpL C ρ H ys us → mapO asS ys = some xs → us = (xs.map mkS).map V.str
  | _, _, _, _, _, _, .nil, e => by cases e; rfl
  | _, _, _, _, _, _, .cons (x := x) (xs := r) rx rr, e => by
    unfold mapO at e
    split at e
    · rename_i y ys h1 h2
      cases e
      unfold asS at h1
      split at h1
      · cases h1
        cases rx
        rw [strsK_of rr h2]
        rfl
      · cases h1
    · cases e
theorem cs_minS {X : Cx} (hc : X.calm = true) : CaK X (.builtin "min") kMinS := by
  obtain ⟨r2, c2, v2⟩ := cs_minL (X := X) hc
  refine ⟨_, CallR.or (cr_minS hc) c2, ?_⟩
  intro ρ H h xs vs W Q hr r p
  unfold kMinS at p
  split at p
  · rename_i n
    split at p
    · rename_i x xs e
      obtain ⟨v, rfl, rv⟩ := one_arg r rfl
      cases e1 : lsA (.loc n) h with
      | none => rw [e1] at e; cases e
      | some ys =>
        obtain ⟨a, us, rfl, hq, rl⟩ := lsA_of hr rv e1
        rw [e1] at e
        have e : mapO asS ys = some (x :: xs) := e
        have := strsK_of rl e
        subst this
        exact .inl ⟨a, x, xs, rfl, hq, Po_ok p hr (.str _)⟩
    · exact .inr (v2 ρ H h _ vs W Q hr r p)
  · exact .inr (v2 ρ H h _ vs W Q hr r p)
end Fw

set_option Elab.async false
set_option linter.all false
set_option maxRecDepth 100000
set_option maxHeartbeats 2000000
set_option autoImplicit false
namespace Fw
open PySem PySem.Spec L2
open PyProof.Rows hiding St
/-! ### sorted, a list of tuples of numbers and texts, each place of one kind (S: where texts stand) -/
abbrev IX := Int ⊕ List Nat
def ixV : IX → V
  | .inl i => .int i
  | .inr s => .str ⟨s.toArray⟩
def ixW : IX → Va
  | .inl i => .int i
  | .inr s => .str s
def ixA : Va → Option IX
  | .int i => some (.inl i)
  | .str s => some (.inr s)
  | _ => none
def shp (S : List Bool) : Nat → List IX → Bool
  | _, [] => true
  | i, .inl _ :: r => !(S.getD i false) && shp S (i + 1) r
  | i, .inr _ :: r => S.getD i false && shp S (i + 1) r
def ltIX (a b : List IX) : Bool := PyProof.Rows.lexLt itemOrd a b
def leIX (a b : List IX) : Prop := ltIX b a = false
instance (a b : List IX) : Decidable (leIX a b) := by unfold leIX; infer_instance
theorem leIX_antisymm {a b : List IX} (h1 : leIX a b) (h2 : leIX b a) : a = b := (listOrd itemOrd).total a b h2 h1
theorem leIX_total (a b : List IX) : leIX a b ∨ leIX b a := by
  cases h : ltIX b a with
  | false => exact .inl h
  | true =>
    refine .inr ?_
    cases h2 : ltIX a b with
    | false => exact h2
    | true =>
      have := (listOrd itemOrd).trans a b a h2 h
      rw [(listOrd itemOrd).irrefl] at this
      cases this
theorem leIX_trans {a b c : List IX} (h1 : leIX a b) (h2 : leIX b c) : leIX a c := by
  unfold leIX at *
  cases h : ltIX c a with
  | false => rfl
  | true =>
    rcases (listOrd itemOrd).negTrans c b a h with w | w
    · exact absurd (show ltIX c b = true from w) (by rw [h2]; decide)
    · exact absurd (show ltIX b a = true from w) (by rw [h1]; decide)
def insIX (x : List IX) : List (List IX) → List (List IX)
  | [] => [x]
  | y :: ys => if leIX x y then x :: y :: ys else y :: insIX x ys
def srtIX : List (List IX) → List (List IX)
  | [] => []
  | x :: xs => insIX x (srtIX xs)
theorem insIX_perm (x : List IX) : ∀ ys, (insIX x ys).Perm (x :: ys)
  | [] => .refl _
  | y :: ys => by
    unfold insIX
    split
    · exact .refl _
    · exact ((insIX_perm x ys).cons y).trans (.swap x y ys)
theorem srtIX_perm : ∀ xs, (srtIX xs).Perm xs
  | [] => .refl _
  | x :: xs => (insIX_perm x _).trans ((srtIX_perm xs).cons x)
theorem insIX_sorted (x : List IX) : ∀ ys : List (List IX), ys.Pairwise leIX → (insIX x ys).Pairwise leIX
  | [], _ => .cons (by simp) .nil
  | y :: ys, h => by
    unfold insIX
    split
    · rename_i c
      refine .cons (fun z hz => ?_) h
      rcases List.mem_cons.mp hz with rfl | hz
      · exact c
      · exact leIX_trans c ((List.pairwise_cons.mp h).1 z hz)
    · rename_i c
      refine .cons (fun z hz => ?_) (insIX_sorted x ys (List.pairwise_cons.mp h).2)
      have hz' := (insIX_perm x ys).mem_iff.mp hz
      rcases List.mem_cons.mp hz' with rfl | hz'
      · exact (leIX_total z y).resolve_left c
      · exact (List.pairwise_cons.mp h).1 z hz'
theorem srtIX_sorted : ∀ xs : List (List IX), (srtIX xs).Pairwise leIX
  | [] => .nil
  | x :: xs => insIX_sorted x _ (srtIX_sorted xs)
theorem sortedIX_one {a b : List (List IX)} (p : a.Perm b) (ha : a.Pairwise leIX) (hb : b.Pairwise leIX) : a = b := p.eq_of_pairwise (fun x y _ _ h1 h2 => leIX_antisymm h1 h2) ha hb
inductive Xps (S : List Bool) (K : PySem.W.Frag) (H : Hp) : List V → List (List IX) → Prop
  | nil : Xps S K H [] []
  | cons {t : Addr} {is : List IX} {xs : List V} {ps : List (List IX)} : SqD K H t (is.map ixV) → is ≠ [] → shp S 0 is = true → Xps S K H xs ps → Xps S K H (.ref t :: xs) (is :: ps)
theorem Xps.mem {S : List Bool} {K : PySem.W.Frag} {H : Hp} : ∀ {xs : List V} {ps : List (List IX)}, Xps S K H xs ps → ∀ x ∈ xs, ∃ t is, x = V.ref t ∧ SqD K H t (is.map ixV) ∧ is ≠ [] ∧ shp S 0 is = true
  | _, _, .nil, x, m => by simp at m
  | _, _, .cons h n e r, x, m => by
    rcases List.mem_cons.mp m with rfl | m
    · exact ⟨_, _, rfl, h, n, e⟩
    · exact Xps.mem r x m
theorem Xps.key {S : List Bool} {K : PySem.W.Frag} {H : Hp} {k : V → List IX} (hk : ∀ t is, SqD K H t (is.map ixV) → k (.ref t) = is) : ∀ {xs : List V} {ps : List (List IX)}, Xps S K H xs ps → ps = xs.map k
  | _, _, .nil => rfl
  | _, _, .cons h _ _ r => by rw [List.map_cons, hk _ _ h, ← Xps.key hk r]
theorem Xps.of_key {S : List Bool} {K : PySem.W.Frag} {H : Hp} {k : V → List IX} (hk : ∀ t is, SqD K H t (is.map ixV) → k (.ref t) = is) : ∀ {xs : List V}, (∀ x ∈ xs, ∃ t is, x = V.ref t ∧ SqD K H t (is.map ixV) ∧ is ≠ [] ∧ shp S 0 is = true) → Xps S K H xs (xs.map k)
  | [], _ => .nil
  | x :: xs, h => by
    obtain ⟨t, is, rfl, q, n, e⟩ := h x List.mem_cons_self
    rw [List.map_cons, hk t is q]
    exact .cons q n e (Xps.of_key hk fun y m => h y (List.mem_cons_of_mem _ m))
theorem ixV_inj : ∀ {a b : IX}, ixV a = ixV b → a = b
  | .inl _, .inl _, h => by simp only [ixV, V.int.injEq] at h; rw [h]
  | .inl _, .inr _, h => by simp [ixV] at h
  | .inr _, .inl _, h => by simp [ixV] at h
  | .inr a, .inr b, h => by
    simp only [ixV, V.str.injEq, Str.mk.injEq] at h
    have := congrArg Array.toList h
    simp at this
    rw [this]
theorem map_ix_inj : ∀ {as bs : List IX}, as.map ixV = bs.map ixV → as = bs
  | [], [], _ => rfl
  | [], _ :: _, h => by simp at h
  | _ :: _, [], h => by simp at h
  | a :: as, b :: bs, h => by
    simp only [List.map_cons, List.cons.injEq] at h
    rw [ixV_inj h.1, map_ix_inj h.2]
theorem ti_ix {S : List Bool} : ∀ {is : List IX} {vs : List Value} {i : Nat}, Vals (is.map ixV) vs → shp S i is = true → tupItems (fun j => S.getD j false) i vs = some is
  | [], _, i, .nil, _ => rfl
  | .inl n :: is, _, i, .cons r rs, e => by
    obtain ⟨t, rfl⟩ := r
    simp only [shp, Bool.and_eq_true, Bool.not_eq_true'] at e
    rw [tupItems, if_neg (by rw [e.1]; decide), ti_ix rs e.2]
    rfl
  | .inr x :: is, _, i, .cons r rs, e => by
    obtain ⟨t, rfl⟩ := r
    simp only [shp, Bool.and_eq_true] at e
    rw [tupItems, if_pos e.1, ti_ix rs e.2]
    rfl
theorem tupsOfX_ex {h : Heap} {sh : Nat → Bool} : ∀ {vs : List Value}, (∀ v ∈ vs, ∃ f, TupOf h sh v f) → ∃ fs, TupsOf h sh vs fs
  | [], _ => ⟨[], .nil⟩
  | v :: vs, q => by
    obtain ⟨f, a⟩ := q v List.mem_cons_self
    obtain ⟨fs, b⟩ := tupsOfX_ex (vs := vs) fun y m => q y (List.mem_cons_of_mem _ m)
    exact ⟨f :: fs, .cons a b⟩
def rSortedX (S : List Bool) (K : PySem.W.Frag) : List V → Hp → VK → Prop := fun vs H Q => ∃ (a : Addr) (xs : List V) (ps : List (List IX)), vs = [V.ref a] ∧ SqL K H a xs ∧ Xps S K H xs ps ∧
  ∀ ys p, Xps S K H ys (srtIX ps) → ys.length = xs.length → H p = none → Q (.ref p) (upd H p (.lst ys))
theorem cr_sortedX {X : Cx} (S : List Bool) : CallR X (.builtin "sorted") (rSortedX S X.K) := by
  intro pins s σ H vs us Q I r h
  obtain ⟨a, xs, ps, rfl, hs, hx, q⟩ := h
  obtain ⟨its, rv, hl, hz⟩ := I.list hs
  obtain ⟨u, rfl, ru⟩ := vals1 r
  obtain rfl : u = Value.ref a := ru
  have hm := hx.mem
  let k : V → List IX := fun x => Classical.epsilon fun is => ∃ t, x = V.ref t ∧ SqD X.K H t (is.map ixV)
  have hk : ∀ t is, SqD X.K H t (is.map ixV) → k (.ref t) = is := fun t is h => by
    have e : ∃ t', V.ref t = V.ref t' ∧ SqD X.K H t' ((k (.ref t)).map ixV) := Classical.epsilon_spec (p := fun is : List IX => ∃ t', V.ref t = V.ref t' ∧ SqD X.K H t' (is.map ixV)) ⟨is, t, rfl, h⟩
    obtain ⟨t', e1, e2⟩ := e
    cases e1
    exact map_ix_inj (I.tuple_inj e2.sq h.sq)
  obtain ⟨e1, e2⟩ := refs_back rv fun x m => by
    obtain ⟨t, i, e, _⟩ := hm x m
    exact ⟨t, e⟩
  have raw : ∀ v ∈ its, ∃ (f : Value) (is : List IX), TupOf s.heap (fun j => S.getD j false) v f ∧ G.tupKeyC s.heap (fun j => S.getD j false) v = some is ∧ k (backV v) = is := fun v hv => by
    obtain ⟨t, rfl⟩ := e2 v hv
    have hmm : V.ref t ∈ xs := by rw [e1]; exact List.mem_map.mpr ⟨_, hv, rfl⟩
    obtain ⟨t', is, e, ht, ne, sh⟩ := hm _ hmm
    cases e
    obtain ⟨its2, r2, ⟨o, ho, hc, n, hd⟩, _⟩ := I.tuple ht.sq
    have kk : k (backV (Value.ref t)) = is := hk t is ht
    have ti := ti_ix r2 sh
    cases is with
    | nil => exact absurd rfl ne
    | cons i0 is =>
      cases r2 with
      | @cons _ u0 _ ur r0 rr =>
      refine ⟨u0, i0 :: is, ⟨t, o, _, n, rfl, ho, hc, hd, rfl, fun w => ?_, fun w => ?_⟩, ?_, kk⟩
      · cases i0 with
        | inl n0 => obtain ⟨t, rfl⟩ := r0; exact ⟨_, _, rfl⟩
        | inr x0 => simp only [shp, Bool.and_eq_true] at sh; exact absurd (show S.getD 0 false = false from w) (by rw [sh.1]; decide)
      · cases i0 with
        | inl n0 => simp only [shp, Bool.and_eq_true, Bool.not_eq_true'] at sh; exact absurd (show S.getD 0 false = true from w) (by rw [sh.1]; decide)
        | inr x0 => obtain ⟨t, rfl⟩ := r0; exact ⟨_, _, rfl⟩
      · have ic : G.isTupObj s.heap (.ref t) = true := by
          simp only [G.isTupObj, ho, hc]
          rfl
        unfold G.tupKeyC
        rw [if_pos ic]
        simp only [tupKey, ho, hd]
        exact ti
  obtain ⟨fs, tf⟩ := tupsOfX_ex (h := s.heap) (vs := its) fun v hv => by
    obtain ⟨f, _, a, _⟩ := raw v hv
    exact ⟨f, a⟩
  refine G.sorted_tups (shape := fun j => S.getD j false) hl.isList tf (fun v hv => ?_) (by rw [← rv.length]; exact hz) fun st' a1 a2 a3 => ?_
  · obtain ⟨_, is, _, b, _⟩ := raw v hv
    exact ⟨_, b⟩
  · let out : List Value := ((arrOf st').map (·.2)).toList
    have same : ∀ p ∈ (arrOf st').toList, p.1 = p.2 ∧ p.1 ∈ its := fun p hp => by
      have := (Array.perm_iff_toList_perm.mp a1).mem_iff.mp hp
      rw [pairsOf_toList] at this
      exact mem_zip_self this
    have perm : out.Perm its := by
      have := (Array.perm_iff_toList_perm.mp a1).map Prod.snd
      rw [pairsOf_toList, List.map_snd_zip (Nat.le_refl _)] at this
      show (((arrOf st').map (·.2)).toList).Perm its
      rw [Array.toList_map]
      exact this
    have h3 : ∀ u ∈ out, ∃ a, u = Value.ref a := fun u hu => e2 u (perm.mem_iff.mp hu)
    have pb : (out.map backV).Perm xs := by rw [e1]; exact perm.map backV
    have hy : ∀ x ∈ out.map backV, ∃ t is, x = V.ref t ∧ SqD X.K H t (is.map ixV) ∧ is ≠ [] ∧ shp S 0 is = true := fun x m => hm x (pb.mem_iff.mp m)
    have pk := Xps.of_key hk hy
    have so : out.Pairwise fun u v => leIX (k (backV u)) (k (backV v)) := by
      have len : out.length = (pairsOf its).size := perm.length_eq.trans (pairsOf_size its).symm
      have key : ∀ i (h : i < out.length), KK (G.tupKindC s.heap fun j => S.getD j false) (arrOf st') i = k (backV out[i]) := fun i h => by
        have h' : i < (arrOf st').size := by
          have e : out.length = (arrOf st').size := by simp [out]
          omega
        have eo : out[i] = (arrOf st')[i].2 := by simp [out]
        obtain ⟨s1, s2⟩ := same (arrOf st')[i] (Array.mem_toList_iff.mpr (Array.getElem_mem h'))
        obtain ⟨_, is, _, b, c⟩ := raw _ s2
        unfold KK
        rw [Array.getElem?_eq_getElem h', eo, ← s1, c]
        show (G.tupKeyC s.heap (fun j => S.getD j false) (arrOf st')[i].1).getD [] = _
        rw [b]
        rfl
      rw [List.pairwise_iff_getElem]
      intro i j hi hj ij
      have z := a2 i j (Nat.le_of_lt ij) (by rw [← len]; exact hj)
      rw [key i hi, key j hj] at z
      exact z
    have ek : (out.map backV).map k = srtIX ps := by
      refine sortedIX_one ?_ ?_ (srtIX_sorted ps)
      · rw [hx.key hk]
        exact (pb.map k).trans (srtIX_perm _).symm
      · exact List.pairwise_map.mpr (List.pairwise_map.mpr so)
    rw [ek] at pk
    obtain ⟨e, he⟩ := sortedAll_at s.heap its ((arrOf st').map (·.2))
    refine ⟨.ref (s.heap.objs.size + 1), upd H (s.heap.objs.size + 1) (.lst (out.map backV)), I.laid (t' := s.toks) (fun b o e => sortedAll_old e) (Nat.le_succ _) ⟨?_, out, e, vals_back h3, ?_⟩, rfl, q _ _ pk pb.length_eq (I.hok.fresh (Nat.le_succ _))⟩
    · rw [pb.length_eq]
      exact hz
    · rw [he]
def tupX (S : List Bool) : Va → Option (List IX)
  | .tup [] => none
  | .tup (x :: xs) => (mapO ixA (x :: xs)).bind fun is => if shp S 0 is = true then some is else none
  | _ => none
def tupVX (is : List IX) : Va := .tup (is.map ixW)
theorem ixA_of {x : Va} {i : IX} (e : ixA x = some i) : x = ixW i := by
  unfold ixA at e
  split at e
  · cases e; rfl
  · cases e; rfl
  · cases e
theorem ixT_of : ∀ {xs : List Va} {is : List IX}, mapO ixA xs = some is → xs = is.map ixW
  | [], _, e => by cases e; rfl
  | x :: xs, is, e => by
    unfold mapO at e
    split at e
    · rename_i y ys h1 h2
      cases e
      rw [ixA_of h1, ixT_of h2]
      rfl
    · cases e
theorem vix_of {C : Ct} {ρ : List Addr} {H : Hp} : ∀ {is : List IX} {vs : List V}, RpL C ρ H (is.map ixW) vs → vs = is.map ixV
  | [], _, .nil => rfl
  | .inl i :: is, _, .cons r rs => by
    cases r
    rw [vix_of rs]
    rfl
  | .inr i :: is, _, .cons r rs => by
    cases r
    rw [vix_of rs]
    rfl
theorem rpIx {C : Ct} {ρ : List Addr} {H : Hp} : ∀ is : List IX, RpL C ρ H (is.map ixW) (is.map ixV)
  | [] => .nil
  | .inl n :: ns => .cons (.int n) (rpIx ns)
  | .inr n :: ns => .cons (.str n) (rpIx ns)
theorem xps_of {S : List Bool} {C : Ct} {ρ : List Addr} {H : Hp} : ∀ {xs : List Va} {vs : List V} {ps : List (List IX)}, RpL C ρ H xs vs → mapO (tupX S) xs = some ps → Xps S C.K H vs ps
  | _, _, _, .nil, e => by cases e; exact .nil
  | _, _, _, .cons (x := x) (xs := xs) r rs, e => by
    unfold mapO at e
    split at e
    · rename_i y ys h1 h2
      cases e
      unfold tupX at h1
      split at h1
      · cases h1
      · rename_i z zs
        cases e0 : mapO ixA (z :: zs) with
        | none => rw [e0] at h1; cases h1
        | some is =>
          rw [e0] at h1
          simp only [Option.bind_some] at h1
          split at h1
          · rename_i sh
            cases h1
            have e := ixT_of e0
            cases y with
            | nil => simp at e
            | cons a as =>
              cases r with
              | tup hq rl =>
                rw [e] at rl
                have e2 := vix_of rl
                rw [e2] at hq
                exact .cons hq (by simp) sh (xps_of rs h2)
          · cases h1
      · cases h1
    · cases e
theorem rp_xps {S : List Bool} {C : Ct} {ρ : List Addr} {H : Hp} : ∀ {vs : List V} {ps : List (List IX)}, Xps S C.K H vs ps → RpL C ρ H (ps.map tupVX) vs
  | _, _, .nil => .nil
  | _, _, .cons h _ _ r => .cons (.tup h (rpIx _)) (rp_xps r)
def kSrtX (S : List Bool) : List Va → Hs → Rs Va := fun xs h => match xs with
  | [x] => match (lsA x h).bind (mapO (tupX S)) with
    | some ps => newL ((srtIX ps).map tupVX) h
    | none => .bad
  | _ => .bad
theorem cs_srtX {X : Cx} (S : List Bool) : CaK X (.builtin "sorted") (kSrtX S) := ⟨_, cr_sortedX S, by
  intro ρ H h xs vs W Q hr r p
  unfold kSrtX at p
  split at p
  · rename_i x
    obtain ⟨v, rfl, rv⟩ := one_arg r rfl
    cases e : lsA x h with
    | none => rw [e] at p; exact p.elim
    | some ys =>
      obtain ⟨a, us, rfl, hq, rl⟩ := lsA_of hr rv e
      rw [e] at p
      cases e2 : mapO (tupX S) ys with
      | none => simp only [Option.bind_some, e2] at p; exact p.elim
      | some ps =>
        simp only [Option.bind_some, e2] at p
        exact ⟨a, us, ps, rfl, hq, xps_of rl e2, fun zs q pz _ hq' => (newL_of hr (rp_xps pz) p).2 q hq'⟩
  · exact p.elim⟩
end Fw

set_option Elab.async false
set_option linter.all false
set_option maxRecDepth 100000
set_option maxHeartbeats 2000000
set_option autoImplicit false
namespace Lawk98
open PySem PySem.Spec L2 Fw Pg Dk Jr
open PyProof.Rows hiding St
def b__law_lean : Ss :=
  (seq (sPar [2, 3] (sCons (sBlt kAbs (sCons (sVar 0) sNil)) (sCons (sVar 1) sNil)))
  (seq (whl (sBl (s2 kGt (sVar 3) (sK (.int 0))))
  (sPar [2, 3] (sCons (sVar 3) (sCons (s2 kMod (sBlt kInt (sCons (sVar 2) sNil)) (sVar 3)) sNil))) 1000)
  (sRet (sTup (sCons (s2 kFdv (sVar 0) (sVar 2)) (sCons (s2 kFdv (sVar 1) (sVar 2)) sNil))))))
abbrev R__law_lean : Fn := runB 4 b__law_lean
def G__law_lean : Fn := pureF R__law_lean
def b__law_next : Ss :=
  (seq (sIf (sBl (s2 kEq (sVar 0) (sK (.str [102, 111, 108, 100]))))
  (sRet (sIte (sBl (s2 kLt (s2 kMul (sK (.int 2)) (sVar 2)) (sVar 1))) (s2 kMul (sK (.int 2)) (sVar 2)) (s2 kSub (s2 kSub (s2 kMul (sK (.int 2)) (sVar 1)) (sK (.int 1))) (s2 kMul (sK (.int 2)) (sVar 2)))))
  skip)
  (seq (sSet 3 (sIte (sBl (s2 kEq (sVar 0) (sK (.str [111, 117, 116])))) (sK (.int 0)) (sK (.int 1))))
  (sRet (sIte (sBl (s2 kLt (s2 kMul (sK (.int 2)) (sVar 2)) (sVar 1))) (s2 kAdd (s2 kMul (sK (.int 2)) (sVar 2)) (sVar 3)) (s2 kSub (s2 kAdd (s2 kSub (s2 kMul (sK (.int 2)) (sVar 2)) (sVar 1)) (sK (.int 1))) (sVar 3))))))
abbrev R__law_next : Fn := runB 4 b__law_next
def G__law_next : Fn := pureF R__law_next
def b__law_common : Ss :=
  (seq (whl (sBl (s2 kGt (sVar 1) (sK (.int 0))))
  (sPar [0, 1] (sCons (sVar 1) (sCons (s2 kMod (sBlt kInt (sCons (sVar 0) sNil)) (sVar 1)) sNil))) 1000)
  (sRet (sVar 0)))
abbrev R__law_common : Fn := runB 2 b__law_common
def G__law_common : Fn := pureF R__law_common
def b__law_tent : Ss :=
  (seq (sIf (sBl (s2 kLe (s2 kMul (sK (.int 2)) (s2 kIx (sVar 0) (sK (.int 0)))) (s2 kIx (sVar 0) (sK (.int 1)))))
  (sRet (sCall G__law_lean 2 [0, 1] (sCons (s2 kMul (sK (.int 2)) (s2 kIx (sVar 0) (sK (.int 0)))) (sCons (s2 kIx (sVar 0) (sK (.int 1))) sNil))))
  skip)
  (sRet (sCall G__law_lean 2 [0, 1] (sCons (s2 kSub (s2 kMul (sK (.int 2)) (s2 kIx (sVar 0) (sK (.int 1)))) (s2 kMul (sK (.int 2)) (s2 kIx (sVar 0) (sK (.int 0))))) (sCons (s2 kIx (sVar 0) (sK (.int 1))) sNil)))))
abbrev R__law_tent : Fn := runB 1 b__law_tent
def G__law_tent : Fn := pureF R__law_tent
def b__law_loops : Ss :=
  (seq (sPar [2, 3] (sCons (sLst sNil) (sCons (sLst sNil) sNil)))
  (seq (sFor (sRg1 (sCons (sVar 1) sNil)) (gNm 4)
  (sIf (sBl (s2 (kIn true) (sVar 4) (sVar 2)))
  (seq (sPar [5, 6] (sCons (sLst (sCons (sVar 4) sNil)) (sCons (sCall G__law_next 3 [0, 1, 2] (sCons (sVar 0) (sCons (sVar 1) (sCons (sVar 4) sNil)))) sNil)))
  (seq (sFor (sRg1 (sCons (sVar 1) sNil)) (gNm 7)
  (sIf (sBl (s2 kNe (sVar 6) (sVar 4)))
  (seq (sDrop (sMth "list" kApp (sVar 5) (sCons (sVar 6) sNil)))
  (sSet 6 (sCall G__law_next 3 [0, 1, 2] (sCons (sVar 0) (sCons (sVar 1) (sCons (sVar 6) sNil))))))
  skip))
  (seq (sSet 2 (s2 kAdd (sVar 2) (sVar 5)))
  (sDrop (sMth "list" kApp (sVar 3) (sCons (sBlt kTpl (sCons (sVar 5) sNil)) sNil))))))
  skip))
  (sRet (sBlt kTpl (sCons (sVar 3) sNil)))))
abbrev R__law_loops : Fn := runB 8 b__law_loops
def G__law_loops : Fn := pureF R__law_loops
def b_order_of : Ss :=
  (seq (sDrop (sCall G_need_shuffle 1 [0] (sCons (sVar 0) sNil)))
  (seq (sDrop (sCall G_need_size 1 [0] (sCons (sVar 1) sNil)))
  (seq (sSet 2 (sCall G__modulus 2 [0, 1] (sCons (sVar 0) (sCons (sVar 1) sNil))))
  (seq (sSet 3 (sIte (sBl (s2 kEq (sVar 0) (sK (.str [102, 111, 108, 100])))) (sTup (sCons (s2 kMod (sK (.int 1)) (sVar 2)) (sCons (s2 kSub (sVar 2) (sK (.int 1))) sNil))) (sTup (sCons (s2 kMod (sK (.int 1)) (sVar 2)) sNil))))
  (seq (sSet 4 (sK (.int 1)))
  (seq (sSet 5 (s2 kMod (sK (.int 2)) (sVar 2)))
  (seq (whl (sBl (s2 (kIn true) (sVar 5) (sVar 3)))
  (seq (sAug kIad 4 (sK (.int 1)))
  (sSet 5 (s2 kMod (s2 kMul (sK (.int 2)) (sVar 5)) (sVar 2)))) 7000)
  (sRet (sVar 4)))))))))
abbrev R_order_of : Fn := runB 6 b_order_of
def G_order_of : Fn := pureF R_order_of
def b__law_small_right : Ss :=
  (seq (sPar [3, 4] (sCons (sCall G__law_dip 2 [0, 1] (sCons (sVar 0) (sCons (sK (.int 9)) sNil))) (sCons (sCall G__law_loops 2 [0, 1] (sCons (sVar 1) (sCons (sVar 2) sNil))) sNil)))
  (seq (sSet 5 (sK (.int 1)))
  (seq (sFor (sItr (sVar 4)) (gNm 6)
  (sSet 5 (s2 kFdv (s2 kMul (sVar 5) (sBlt kLen (sCons (sVar 6) sNil))) (sCall G__law_common 2 [0, 1] (sCons (sVar 5) (sCons (sBlt kLen (sCons (sVar 6) sNil)) sNil))))))
  (seq (sIf (sOr (sBl (s2 kNe (sCall G_loops 2 [0, 1] (sCons (sVar 1) (sCons (sVar 2) sNil))) (sVar 4))) (sBl (s2 kNe (sCall G_order_of 2 [0, 1] (sCons (sVar 1) (sCons (sVar 2) sNil))) (sVar 5))))
  (sRet (sK (.bl false)))
  skip)
  (seq (sSet 7 (s2 kMul (sLst (sCons (sK (.int 0)) sNil)) (sVar 2)))
  (seq (sFor (sRg1 (sCons (sVar 2) sNil)) (gNm 8)
  (seq (sSet 9 (sVar 8))
  (seq (sFor (sRg1 (sCons (sVar 3) sNil)) (gNm 10)
  (sSet 9 (sCall G__law_next 3 [0, 1, 2] (sCons (sVar 1) (sCons (sVar 2) (sCons (sVar 9) sNil))))))
  (seq (sAsg (sVar 8) (gSb (sVar 7) (sVar 9)))
  (sIf (sBl (s2 kNe (sCall G_place_after 4 [0, 1, 2, 3] (sCons (sVar 1) (sCons (sVar 2) (sCons (sVar 8) (sCons (s2 kAdd (sVar 3) (s2 kMul (sVar 5) (s2 kPow (sK (.int 10)) (sK (.int 20))))) sNil))))) (sVar 9)))
  (sRet (sK (.bl false)))
  skip)))))
  (sRet (s2 kEq (sCall G_deck_after 3 [0, 1, 2] (sCons (sVar 1) (sCons (sVar 2) (sCons (sVar 3) sNil)))) (sBlt kTpl (sCons (sVar 7) sNil))))))))))
abbrev R__law_small_right : Fn := runB 11 b__law_small_right
@[irreducible] def G__law_small_right : Fn := R__law_small_right
theorem g__law_small_right (xs : List Va) (h : Hs) (_ : xs.length = 3) (_ : G__law_small_right xs h ≠ .bad) : R__law_small_right xs h = G__law_small_right xs h := congrFun (congrFun (show R__law_small_right = G__law_small_right from by unfold G__law_small_right; rfl) xs) h
def b__law_row_right : Ss :=
  (seq (sSet 2 (sCall G_row_to 2 [0, 1] (sCons (sVar 0) (sCons (sVar 1) sNil))))
  (seq (sSet 3 (sLst (sCons (sTup (sCons (sK (.str [])) (sCons (sK (.int 0)) sNil))) sNil)))
  (seq (sFor (sRg1 (sCons (sK (.int 30)) sNil)) (gNm 4)
  (seq (sSet 5 (sLc (sItr (sVar 3)) (gTp 2 (gsCons (gNm 7) (gsCons (gNm 8) gsNil))) (sBl (s2 kEq (sVar 8) (sVar 1))) (sVar 7) [7, 8]))
  (seq (sIf (sBl (s2 kNe (sVar 5) (sLst sNil)))
  (sRet (s2 kEq (sVar 2) (sBlt kMinS (sCons (sVar 5) sNil))))
  skip)
  (seq (sSet 6 (sLst sNil))
  (seq (sFor (sItr (sVar 3)) (gTp 2 (gsCons (gNm 7) (gsCons (gNm 8) gsNil)))
  (seq (sDrop (sMth "list" kApp (sVar 6) (sCons (sTup (sCons (s2 kAdd (sVar 7) (sK (.str [105]))) (sCons (sCall G__law_next 3 [0, 1, 2] (sCons (sK (.str [105, 110])) (sCons (sVar 0) (sCons (sVar 8) sNil)))) sNil))) sNil)))
  (sDrop (sMth "list" kApp (sVar 6) (sCons (sTup (sCons (s2 kAdd (sVar 7) (sK (.str [111]))) (sCons (sCall G__law_next 3 [0, 1, 2] (sCons (sK (.str [111, 117, 116])) (sCons (sVar 0) (sCons (sVar 8) sNil)))) sNil))) sNil)))))
  (seq (sPar [3, 9] (sCons (sLst sNil) (sCons (sLst sNil) sNil)))
  (sFor (sItr (sBlt (kSrtX [true, false]) (sCons (sVar 6) sNil))) (gTp 2 (gsCons (gNm 7) (gsCons (gNm 8) gsNil)))
  (sIf (sBl (s2 (kIn true) (sVar 8) (sVar 9)))
  (seq (sDrop (sMth "list" kApp (sVar 9) (sCons (sVar 8) sNil)))
  (sDrop (sMth "list" kApp (sVar 3) (sCons (sTup (sCons (sVar 7) (sCons (sVar 8) sNil))) sNil))))
  skip))))))))
  (sRet (sK (.bl false))))))
abbrev R__law_row_right : Fn := runB 10 b__law_row_right
def G__law_row_right : Fn := pureF R__law_row_right
def b__law_great_right : Ss :=
  (seq (sPar [1, 2] (sCons (s2 kAdd (sK (.int 2)) (s2 kMul (sK (.int 2)) (sCall G__law_dip 2 [0, 1] (sCons (sVar 0) (sCons (sK (.int 1500)) sNil))))) (sCons (sCall G__law_pick 2 [0, 1] (sCons (sVar 0) (sCons (sLst (sCons (sK (.str [111, 117, 116])) (sCons (sK (.str [105, 110])) (sCons (sK (.str [102, 111, 108, 100])) sNil)))) sNil))) sNil)))
  (seq (sPar [3, 4] (sCons (sCall G_order_of 2 [0, 1] (sCons (sVar 2) (sCons (sVar 1) sNil))) (sCons (sCall G__law_dip 2 [0, 1] (sCons (sVar 0) (sCons (sVar 1) sNil))) sNil)))
  (seq (sIf (sBl (s2 kNe (sCall G_place_after 4 [0, 1, 2, 3] (sCons (sVar 2) (sCons (sVar 1) (sCons (sVar 4) (sCons (sVar 3) sNil))))) (sVar 4)))
  (sRet (sK (.bl false)))
  skip)
  (seq (sSet 5 (sIte (sBl (s2 kEq (sVar 2) (sK (.str [111, 117, 116])))) (s2 kSub (sVar 1) (sK (.int 1))) (sIte (sBl (s2 kEq (sVar 2) (sK (.str [105, 110])))) (s2 kAdd (sVar 1) (sK (.int 1))) (s2 kSub (s2 kMul (sK (.int 2)) (sVar 1)) (sK (.int 1))))))
  (seq (sSet 6 (sK (.int 1)))
  (seq (sFor (sRg1 (sCons (sBlt kMin (sCons (sVar 3) (sCons (sK (.int 3000)) sNil))) sNil)) (gNm 7)
  (seq (sSet 6 (sIte (sBl (s2 kGt (sVar 5) (sK (.int 1)))) (s2 kMod (sBlt kInt (sCons (s2 kMul (sK (.int 2)) (sVar 6)) sNil)) (sVar 5)) (sK (.int 0))))
  (seq (sSet 8 (sOrV (s2 kEq (sVar 6) (sK (.int 1))) (sOrV (sAndV (s2 kEq (sVar 2) (sK (.str [102, 111, 108, 100]))) (s2 kEq (sVar 6) (s2 kSub (sVar 5) (sK (.int 1))))) (s2 kEq (sVar 5) (sK (.int 1))))))
  (sIf (sBl (s2 kNe (sVar 8) (s2 kEq (sVar 7) (s2 kSub (sVar 3) (sK (.int 1))))))
  (sRet (sK (.bl false)))
  skip))))
  (sRet (s2 kEq (sCall G_place_after 4 [0, 1, 2, 3] (sCons (sVar 2) (sCons (sVar 1) (sCons (sVar 4) (sCons (sK (.int 1)) sNil))))) (sCall G__law_next 3 [0, 1, 2] (sCons (sVar 2) (sCons (sVar 1) (sCons (sVar 4) sNil))))))))))))
abbrev R__law_great_right : Fn := runB 9 b__law_great_right
@[irreducible] def G__law_great_right : Fn := R__law_great_right
theorem g__law_great_right (xs : List Va) (h : Hs) (_ : xs.length = 1) (_ : G__law_great_right xs h ≠ .bad) : R__law_great_right xs h = G__law_great_right xs h := congrFun (congrFun (show R__law_great_right = G__law_great_right from by unfold G__law_great_right; rfl) xs) h
def b__law_right : Ss :=
  (seq (sPar [1, 2] (sCons (s2 kAdd (sK (.int 2)) (s2 kMul (sK (.int 2)) (sCall G__law_dip 2 [0, 1] (sCons (sVar 0) (sCons (sK (.int 15)) sNil))))) (sCons (sCall G__law_pick 2 [0, 1] (sCons (sVar 0) (sCons (sLst (sCons (sK (.str [111, 117, 116])) (sCons (sK (.str [105, 110])) (sCons (sK (.str [102, 111, 108, 100])) sNil)))) sNil))) sNil)))
  (seq (sIf (sOr (sNot (sTru (sCall G__law_small_right 3 [0, 1, 2] (sCons (sVar 0) (sCons (sVar 2) (sCons (sVar 1) sNil)))))) (sNot (sTru (sCall G__law_row_right 2 [0, 1] (sCons (sVar 1) (sCons (sCall G__law_dip 2 [0, 1] (sCons (sVar 0) (sCons (sVar 1) sNil))) sNil))))))
  (sRet (sK (.bl false)))
  skip)
  (seq (sPar [3, 4] (sCons (sCall G__law_dip 2 [0, 1] (sCons (sVar 0) (sCons (sVar 1) sNil))) (sCons (s2 kAdd (sK (.int 1)) (sCall G__law_dip 2 [0, 1] (sCons (sVar 0) (sCons (sK (.int 12)) sNil)))) sNil)))
  (seq (sSet 5 (sCall G__law_lean 2 [0, 1] (sCons (s2 kMul (sK (.int 2)) (sVar 3)) (sCons (s2 kSub (s2 kMul (sK (.int 2)) (sVar 1)) (sK (.int 1))) sNil))))
  (seq (sFor (sRg1 (sCons (sVar 4) sNil)) (gNm 6)
  (sSet 5 (sCall G__law_tent 1 [0] (sCons (sVar 5) sNil))))
  (seq (sSet 7 (sCall G_place_after 4 [0, 1, 2, 3] (sCons (sK (.str [102, 111, 108, 100])) (sCons (sVar 1) (sCons (sVar 3) (sCons (sVar 4) sNil))))))
  (seq (sIf (sBl (s2 kNe (sVar 5) (sCall G__law_lean 2 [0, 1] (sCons (s2 kMul (sK (.int 2)) (sVar 7)) (sCons (s2 kSub (s2 kMul (sK (.int 2)) (sVar 1)) (sK (.int 1))) sNil)))))
  (sRet (sK (.bl false)))
  skip)
  (sRet (sOrV (s2 kGt (sCall G__law_dip 2 [0, 1] (sCons (sVar 0) (sCons (sK (.int 4)) sNil))) (sK (.int 0))) (sCall G__law_great_right 1 [0] (sCons (sVar 0) sNil)))))))))))
abbrev R__law_right : Fn := runB 8 b__law_right
@[irreducible] def G__law_right : Fn := R__law_right
theorem g__law_right (xs : List Va) (h : Hs) (_ : xs.length = 1) (_ : G__law_right xs h ≠ .bad) : R__law_right xs h = G__law_right xs h := congrFun (congrFun (show R__law_right = G__law_right from by unfold G__law_right; rfl) xs) h
def b_law : Ss :=
  (sRet (sBlt kAll (sCons (sLc (sRg1 (sCons (sBlt kMax (sCons (sK (.int 2)) (sCons (sBlt kMin (sCons (sBlt kLen (sCons (sVar 0) sNil)) (sCons (sK (.int 3)) sNil))) sNil))) sNil)) (gNm 1) tru (sCall G__law_right 1 [0] (sCons (sCall G__law_jar 2 [0, 1] (sCons (sVar 0) (sCons (sVar 1) sNil))) sNil)) [1]) sNil)))
abbrev R_law : Fn := runB 2 b_law
end Lawk98

set_option Elab.async false
set_option linter.all false
set_option maxRecDepth 100000
set_option maxHeartbeats 4000000
set_option autoImplicit false
namespace Fw
open PySem PySem.Spec L2
open PyProof.Rows hiding St
theorem litN (n : Nat) : Va.int (no_index (@OfNat.ofNat Int n instOfNat)) = Va.int ((@OfNat.ofNat Nat n (instOfNatNat n) : Nat) : Int) := rfl
theorem ge_ok {a b : Nat} {h : Hs} : kGe (.int (a : Nat)) (.int (b : Nat)) h = .ok (.bl (decide (b ≤ a))) h := by simp [kGe]
theorem mx_ok {a b : Nat} {h : Hs} : kMax [.int (a : Nat), .int (b : Nat)] h = .ok (.int (max a b : Nat)) h := by
  simp only [kMax, okI]
  congr 2
  split <;> omega
theorem mn_ok {a b : Nat} {h : Hs} : kMin [.int (a : Nat), .int (b : Nat)] h = .ok (.int (min a b : Nat)) h := by
  simp only [kMin, okI]
  congr 2
  split <;> omega
theorem it_ok {i : Int} {h : Hs} : kInt [.int i] h = .ok (.int i) h := (rfl)
theorem ib_ok {b : Bool} {h : Hs} : kInt [.bl b] h = .ok (.int (b.toNat : Nat)) h := by cases b <;> rfl
theorem ia_ok {a b : Nat} {h : Hs} : kIad (.int (a : Nat)) (.int (b : Nat)) h = .ok (.int (a + b : Nat)) h := (rfl)
theorem aw_ok {a b : Nat} {h : Hs} : kAddW (.int (a : Nat)) (.int (b : Nat)) h = .ok (.int (a + b : Nat)) h := (rfl)
theorem aws_ok {a b : List Nat} {h : Hs} (l : a.length + b.length ≤ 16777216) : kAddW (.str a) (.str b) h = .ok (.str (a ++ b)) h := by
  show (if a.length + b.length ≤ 16777216 then _ else _) = _
  rw [if_pos l]
theorem as_ok {a b : List Nat} {h : Hs} (l : a.length + b.length ≤ 16777216) : kAdd (.str a) (.str b) h = .ok (.str (a ++ b)) h := by
  show (if a.length + b.length ≤ 16777216 then _ else _) = _
  rw [if_pos l]
theorem ln_str {x : List Nat} {h : Hs} (l : x.length ≤ 16777216) : kLen [.str x] h = .ok (.int (x.length : Nat)) h := if_pos l
theorem ln_tup {xs : List Va} {h : Hs} : kLen [.tup xs] h = .ok (.int (xs.length : Nat)) h := (rfl)
theorem ln_ros {xs : List Va} {h : Hs} : kLen [.ros xs] h = .ok (.int (xs.length : Nat)) h := (rfl)
theorem eqs_ok {a b : List Nat} {h : Hs} : kEq (.str a) (.str b) h = .ok (.bl (decide (a = b))) h := (rfl)
theorem nes_ok {a b : List Nat} {h : Hs} : kNe (.str a) (.str b) h = .ok (.bl (!decide (a = b))) h := (rfl)
theorem asB_bl (b : Bool) : asB (.bl b) = some b := (rfl)
theorem trA_bl (b : Bool) (h : Hs) : trA (.bl b) h = some b := (rfl)
theorem gNm_ap (i : Nat) (x : Va) (e : En) (h : Hs) : gNm i x e h = .ok (e.set i (some x)) h := (rfl)
theorem gTp2 (i j : Nat) (x y : Va) (e : En) (h : Hs) : gTp 2 (gsCons (gNm i) (gsCons (gNm j) gsNil)) (.tup [x, y]) e h = .ok ((e.set i (some x)).set j (some y)) h := (rfl)
theorem gTp3 (i j k : Nat) (x y z : Va) (e : En) (h : Hs) : gTp 3 (gsCons (gNm i) (gsCons (gNm j) (gsCons (gNm k) gsNil))) (.tup [x, y, z]) e h = .ok (((e.set i (some x)).set j (some y)).set k (some z)) h := (rfl)
theorem gTp2w (i j : Nat) (x y : Va) (e : En) (h : Hs) : gTp 2 (gsCons (gNm i) (gsCons (gNm j) gsNil)) (.tpw [x, y]) e h = .ok ((e.set i (some x)).set j (some y)) h := (rfl)
theorem gTp3w (i j k : Nat) (x y z : Va) (e : En) (h : Hs) : gTp 3 (gsCons (gNm i) (gsCons (gNm j) (gsCons (gNm k) gsNil))) (.tpw [x, y, z]) e h = .ok (((e.set i (some x)).set j (some y)).set k (some z)) h := (rfl)
theorem setAll_nil (e : En) : setAll [] [] e = some e := (rfl)
theorem setAll_cons (i : Nat) (is : List Nat) (x : Va) (xs : List Va) (e : En) : setAll (i :: is) (x :: xs) e = setAll is xs (e.set i (some x)) := (rfl)
theorem fm1 (a : Va) : List.filterMap (fun (j : Nat) => [a][j]?) [0] = [a] := (rfl)
theorem fm2 (a b : Va) : List.filterMap (fun (j : Nat) => [a, b][j]?) [0, 1] = [a, b] := (rfl)
theorem fm2' (a b : Va) : List.filterMap (fun (j : Nat) => [a, b][j]?) [1, 0] = [b, a] := (rfl)
theorem fm3 (a b c : Va) : List.filterMap (fun (j : Nat) => [a, b, c][j]?) [0, 1, 2] = [a, b, c] := (rfl)
theorem fm4 (a b c d : Va) : List.filterMap (fun (j : Nat) => [a, b, c, d][j]?) [0, 1, 2, 3] = [a, b, c, d] := (rfl)
theorem fm5 (a b c d f : Va) : List.filterMap (fun (j : Nat) => [a, b, c, d, f][j]?) [0, 1, 2, 3, 4] = [a, b, c, d, f] := (rfl)
theorem fm0 : List.filterMap (fun (j : Nat) => ([] : List Va)[j]?) [] = [] := (rfl)
theorem sV15 (a b c d f g j k l n o p q t u : Option Va) (x : Va) (r : En) (h : Hs) : sVar 15 (a :: b :: c :: d :: f :: g :: j :: k :: l :: n :: o :: p :: q :: t :: u :: some x :: r) h = .ok x h := (rfl)
theorem sV16 (a b c d f g j k l n o p q t u a1 : Option Va) (x : Va) (r : En) (h : Hs) : sVar 16 (a :: b :: c :: d :: f :: g :: j :: k :: l :: n :: o :: p :: q :: t :: u :: a1 :: some x :: r) h = .ok x h := (rfl)
theorem sV17 (a b c d f g j k l n o p q t u a1 a2 : Option Va) (x : Va) (r : En) (h : Hs) : sVar 17 (a :: b :: c :: d :: f :: g :: j :: k :: l :: n :: o :: p :: q :: t :: u :: a1 :: a2 :: some x :: r) h = .ok x h := (rfl)
theorem sV18 (a b c d f g j k l n o p q t u a1 a2 a3 : Option Va) (x : Va) (r : En) (h : Hs) : sVar 18 (a :: b :: c :: d :: f :: g :: j :: k :: l :: n :: o :: p :: q :: t :: u :: a1 :: a2 :: a3 :: some x :: r) h = .ok x h := (rfl)
theorem sV19 (a b c d f g j k l n o p q t u a1 a2 a3 a4 : Option Va) (x : Va) (r : En) (h : Hs) : sVar 19 (a :: b :: c :: d :: f :: g :: j :: k :: l :: n :: o :: p :: q :: t :: u :: a1 :: a2 :: a3 :: a4 :: some x :: r) h = .ok x h := (rfl)
theorem sV20 (a b c d f g j k l n o p q t u a1 a2 a3 a4 a5 : Option Va) (x : Va) (r : En) (h : Hs) : sVar 20 (a :: b :: c :: d :: f :: g :: j :: k :: l :: n :: o :: p :: q :: t :: u :: a1 :: a2 :: a3 :: a4 :: a5 :: some x :: r) h = .ok x h := (rfl)
theorem stp_ap (g : Tg) (b : Ss) (x : Va) (e : En) (h : Hs) : stp g b x e h = match g x e h with | .ok e' h' => b e' h' | _ => .bad := (rfl)
theorem wipeE_nil (e : En) : wipeE e [] = e := (rfl)
theorem wipeE_cons (e : En) (v : Nat) (vs : List Nat) : wipeE e (v :: vs) = (wipeE e vs).set v none := (rfl)
theorem EV0 : (type_of% @fwd_ok) ∧ (type_of% @fwdS_ok) ∧ (type_of% @thn_nx) ∧ (type_of% @thn_rt) ∧ (type_of% @bnd_ap) ∧ (type_of% @bnS_ap) ∧ (type_of% @vl_ap) ∧ (type_of% @s2_ap) ∧ (type_of% @s1_ap) ∧ (type_of% @sK_ap) ∧ (type_of% @sV0) ∧ (type_of% @sV1) ∧ (type_of% @sV2) ∧ (type_of% @sV3) ∧ (type_of% @sV4) ∧ (type_of% @sV5) ∧ (type_of% @sV6) ∧ (type_of% @sV7) ∧ (type_of% @sV8) ∧ (type_of% @sV9) ∧ (type_of% @sV10) ∧ (type_of% @sV11) ∧ (type_of% @sV12) ∧ (type_of% @sV13) ∧ (type_of% @sV14) ∧ (type_of% @sV15) ∧ (type_of% @sV16) ∧ (type_of% @sV17) ∧ (type_of% @sV18) ∧ (type_of% @sV19) := ⟨@fwd_ok, @fwdS_ok, @thn_nx, @thn_rt, @bnd_ap, @bnS_ap, @vl_ap, @s2_ap, @s1_ap, @sK_ap, @sV0, @sV1, @sV2, @sV3, @sV4, @sV5, @sV6, @sV7, @sV8, @sV9, @sV10, @sV11, @sV12, @sV13, @sV14, @sV15, @sV16, @sV17, @sV18, @sV19⟩
theorem EV1 : (type_of% @sV20) ∧ (type_of% @sNil_ap) ∧ (type_of% @sCons_ap) ∧ (type_of% @sSet_ap) ∧ (type_of% @sAug_ap) ∧ (type_of% @sRet_ap) ∧ (type_of% @sDrop_ap) ∧ (type_of% @skip_ap) ∧ (type_of% @sIf_ap) ∧ (type_of% @sBl_ap) ∧ (type_of% @sTru_ap) ∧ (type_of% @sNot_ap) ∧ (type_of% @sAnd_ap) ∧ (type_of% @sOr_ap) ∧ (type_of% @sIte_ap) ∧ (type_of% @byB_t) ∧ (type_of% @byB_f) ∧ (type_of% @sAndV_ap) ∧ (type_of% @sOrV_ap) ∧ (type_of% @sBlt_ap) ∧ (type_of% @sCall_ap) ∧ (type_of% @sCallK_ap) ∧ (type_of% @sTup_ap) ∧ (type_of% @sLst_ap) ∧ (type_of% @sAsg_ap) ∧ (type_of% @sPar_ap) ∧ (type_of% @sFor_ap) ∧ (type_of% @sItr_ap) ∧ (type_of% @sLc_ap) ∧ (type_of% @sMth_ap) := ⟨@sV20, @sNil_ap, @sCons_ap, @sSet_ap, @sAug_ap, @sRet_ap, @sDrop_ap, @skip_ap, @sIf_ap, @sBl_ap, @sTru_ap, @sNot_ap, @sAnd_ap, @sOr_ap, @sIte_ap, @byB_t, @byB_f, @sAndV_ap, @sOrV_ap, @sBlt_ap, @sCall_ap, @sCallK_ap, @sTup_ap, @sLst_ap, @sAsg_ap, @sPar_ap, @sFor_ap, @sItr_ap, @sLc_ap, @sMth_ap⟩
theorem EV2 : (type_of% @fin_rt) ∧ (type_of% @fin_nx) ∧ (type_of% @sChn_ap) ∧ (type_of% @sNo_ap) ∧ (type_of% @sSo_ap) ∧ (type_of% @sSl_ap) ∧ (type_of% @ngB_f) ∧ (type_of% @ngB_t) ∧ (type_of% @litN) ∧ (type_of% @ad_ok) ∧ (type_of% @sb_ok) ∧ (type_of% @mu_ok) ∧ (type_of% @md_ok) ∧ (type_of% @fd_ok) ∧ (type_of% @eqn_ok) ∧ (type_of% @nen_ok) ∧ (type_of% @gt_ok) ∧ (type_of% @le_ok) ∧ (type_of% @lt_ok) ∧ (type_of% @ge_ok) ∧ (type_of% @mx_ok) ∧ (type_of% @mn_ok) ∧ (type_of% @it_ok) ∧ (type_of% @ib_ok) ∧ (type_of% @ia_ok) ∧ (type_of% @aw_ok) ∧ (type_of% @aws_ok) ∧ (type_of% @as_ok) ∧ (type_of% @ln_str) ∧ (type_of% @ln_tup) := ⟨@fin_rt, @fin_nx, @sChn_ap, @sNo_ap, @sSo_ap, @sSl_ap, @ngB_f, @ngB_t, @litN, @ad_ok, @sb_ok, @mu_ok, @md_ok, @fd_ok, @eqn_ok, @nen_ok, @gt_ok, @le_ok, @lt_ok, @ge_ok, @mx_ok, @mn_ok, @it_ok, @ib_ok, @ia_ok, @aw_ok, @aws_ok, @as_ok, @ln_str, @ln_tup⟩
theorem EV3 : (type_of% @ln_ros) ∧ (type_of% @eqs_ok) ∧ (type_of% @nes_ok) ∧ (type_of% @asB_bl) ∧ (type_of% @trA_bl) ∧ (type_of% @gNm_ap) ∧ (type_of% @gTp2) ∧ (type_of% @gTp3) ∧ (type_of% @gTp2w) ∧ (type_of% @gTp3w) ∧ (type_of% @setAll_nil) ∧ (type_of% @setAll_cons) ∧ (type_of% @fm0) ∧ (type_of% @fm1) ∧ (type_of% @fm2) ∧ (type_of% @fm2') ∧ (type_of% @fm3) ∧ (type_of% @fm4) ∧ (type_of% @fm5) ∧ (type_of% @stp_ap) ∧ (type_of% @wipeE_nil) ∧ (type_of% @wipeE_cons) := ⟨@ln_ros, @eqs_ok, @nes_ok, @asB_bl, @trA_bl, @gNm_ap, @gTp2, @gTp3, @gTp2w, @gTp3w, @setAll_nil, @setAll_cons, @fm0, @fm1, @fm2, @fm2', @fm3, @fm4, @fm5, @stp_ap, @wipeE_nil, @wipeE_cons⟩
end Fw

set_option Elab.async false
set_option linter.all false
set_option maxRecDepth 100000
set_option maxHeartbeats 4000000
set_option autoImplicit false
namespace Fw
open PySem PySem.Spec L2
open PyProof.Rows hiding St
open Pg (vN)
/-! ### values that stand for things of a type -/
class Enc (α : Type) where
  deq : DecidableEq α
  va : α → Va
  py : α → PyData
  ok : α → Prop
  dp : Nat
  rd : ∀ (h : Hs) (x : α) (n : Nat), dp < n → rdV h n (va x) = some (py x)
  dpt : ∀ x, (py x).depth ≤ dp
  cl : ∀ x, ok x → (py x).canLay0 = true
  eqv : ∀ x y, PyData.eqv (py x) (py y) = decide (x = y)
instance {α : Type} [Enc α] : DecidableEq α := Enc.deq
theorem rdV_pos {h : Hs} {n : Nat} (h0 : 0 < n) (x : Va) : ∃ m, n = m + 1 := ⟨n - 1, by omega⟩
instance : Enc Nat where
  deq := inferInstance
  va n := .int (n : Nat)
  py n := .int (n : Nat)
  ok _ := True
  dp := 0
  rd h x n l := by obtain ⟨m, rfl⟩ := rdV_pos (h := h) l (.non); rfl
  dpt x := by simp [PyData.depth]
  cl x _ := by simp [PyData.canLay0]
  eqv x y := by
    simp only [PyData.eqv]
    rw [Bool.eq_iff_iff]
    simp
    omega
instance : Enc Int where
  deq := inferInstance
  va n := .int n
  py n := .int n
  ok _ := True
  dp := 0
  rd h x n l := by obtain ⟨m, rfl⟩ := rdV_pos (h := h) l (.non); rfl
  dpt x := by simp [PyData.depth]
  cl x _ := by simp [PyData.canLay0]
  eqv x y := by
    simp only [PyData.eqv]
    rw [Bool.eq_iff_iff]
    simp
/-- texts -/
structure Tx where
  s : List Nat
  deriving DecidableEq
instance : Enc Tx where
  deq := inferInstance
  va n := .str n.s
  py n := .str ⟨n.s.toArray⟩
  ok n := ∀ c ∈ n.s, c < 0x110000
  dp := 0
  rd h x n l := by obtain ⟨m, rfl⟩ := rdV_pos (h := h) l (.non); rfl
  dpt x := by simp [PyData.depth]
  cl x q := by
    simp only [PyData.canLay0]
    show (x.s.toArray.all fun c => decide (c < 0x110000)) = true
    rw [List.all_toArray, List.all_eq_true]
    intro c hc
    exact decide_eq_true (q c hc)
  eqv x y := by
    simp only [PyData.eqv]
    rw [Bool.eq_iff_iff]
    cases x; cases y
    simp
theorem eqvAll_map {α β : Type} [DecidableEq α] {f : α → PyData} (hf : ∀ x y, PyData.eqv (f x) (f y) = decide (x = y)) : ∀ xs ys : List α, PyData.eqvAll (xs.map f) (ys.map f) = decide (xs = ys)
  | [], [] => by simp [PyData.eqvAll]
  | [], _ :: _ => by simp [PyData.eqvAll]
  | _ :: _, [] => by simp [PyData.eqvAll]
  | x :: xs, y :: ys => by
    simp only [List.map_cons, PyData.eqvAll]
    rw [hf, eqvAll_map (β := β) hf xs ys, Bool.eq_iff_iff]
    simp
theorem mapO_enc {α : Type} [Enc α] (h : Hs) (n : Nat) (l : Enc.dp α < n) : ∀ xs : List α, mapO (rdV h n) (xs.map Enc.va) = some (xs.map Enc.py)
  | [] => rfl
  | x :: xs => by simp only [List.map_cons, mapO, Enc.rd h x n l, mapO_enc h n l xs]
/-- tuples of things alike -/
instance {α : Type} [Enc α] : Enc (List α) where
  deq := inferInstance
  va xs := .tup (xs.map Enc.va)
  py xs := .tuple (xs.map Enc.py)
  ok xs := ∀ x ∈ xs, Enc.ok x
  dp := Enc.dp α + 1
  rd h x n l := by
    obtain ⟨m, rfl⟩ := rdV_pos (h := h) (show 0 < n by omega) (.non)
    simp only [rdV, mapO_enc (α := α) h m (by omega), Option.map_some]
  dpt x := by
    have := depthAll_le (k := Enc.dp α) (x.map Enc.py) (by
      intro d hd
      obtain ⟨y, _, rfl⟩ := List.mem_map.mp hd
      exact Enc.dpt y)
    simp only [PyData.depth]
    omega
  cl x q := by
    simp only [PyData.canLay0]
    refine canLayAll_of _ fun d hd => ?_
    obtain ⟨y, hy, rfl⟩ := List.mem_map.mp hd
    exact Enc.cl y (q y hy)
  eqv x y := by
    simp only [PyData.eqv]
    exact eqvAll_map (β := Unit) Enc.eqv x y
/-- pairs -/
instance {α β : Type} [Enc α] [Enc β] : Enc (α × β) where
  deq := inferInstance
  va p := .tup [Enc.va p.1, Enc.va p.2]
  py p := .tuple [Enc.py p.1, Enc.py p.2]
  ok p := Enc.ok p.1 ∧ Enc.ok p.2
  dp := max (Enc.dp α) (Enc.dp β) + 1
  rd h x n l := by
    obtain ⟨m, rfl⟩ := rdV_pos (h := h) (show 0 < n by omega) (.non)
    simp only [rdV, mapO, Enc.rd h x.1 m (by omega), Enc.rd h x.2 m (by omega), Option.map_some]
  dpt x := by
    have := Enc.dpt x.1
    have := Enc.dpt x.2
    simp only [PyData.depth, PyData.depthAll]
    omega
  cl x q := by
    simp only [PyData.canLay0, PyData.canLayAll0, Enc.cl x.1 q.1, Enc.cl x.2 q.2, Bool.and_self]
  eqv x y := by
    simp only [PyData.eqv, PyData.eqvAll, Enc.eqv]
    rw [Bool.eq_iff_iff]
    cases x; cases y
    simp
theorem eqD_of {x y : Va} {h : Hs} {d e : PyData} {b : Bool} (neg : Bool) (q1 : rdV h 24 x = some d) (q2 : rdV h 24 y = some e) (s1 : SeqAt.shaped d = true) (s2 : SeqAt.shaped e = true) (v : PyData.eqv d e = b) : kEqD neg x y h = .ok (.bl (ngB neg b)) h := by
  simp only [kEqD, q1, q2]
  rw [if_pos ⟨s1, s2⟩, v]
  cases neg <;> rfl
theorem Enc.shp {α : Type} [Enc α] (hd : Enc.dp α < 24) (x : α) (q : Enc.ok x) : SeqAt.shaped (Enc.py x) = true := by
  unfold SeqAt.shaped
  rw [Enc.cl x q, Bool.true_and]
  exact decide_eq_true (by have := Enc.dpt x; omega)
theorem eqE {α : Type} [Enc α] (neg : Bool) (hd : Enc.dp α < 24) (x y : α) (hx : Enc.ok x) (hy : Enc.ok y) (h : Hs) : kEqD neg (Enc.va x) (Enc.va y) h = .ok (.bl (ngB neg (decide (x = y)))) h :=
  eqD_of neg (Enc.rd h x 24 hd) (Enc.rd h y 24 hd) (Enc.shp hd x hx) (Enc.shp hd y hy) (Enc.eqv x y)
theorem eqN (neg : Bool) (xs ys : List Nat) (h : Hs) : kEqD neg (.tup (xs.map vN)) (.tup (ys.map vN)) h = .ok (.bl (ngB neg (decide (xs = ys)))) h :=
  eqE neg (by decide) xs ys (fun _ _ => trivial) (fun _ _ => trivial) h
theorem eq_tN (xs ys : List Nat) (h : Hs) : kEq (.tup (xs.map vN)) (.tup (ys.map vN)) h = .ok (.bl (decide (xs = ys))) h := eqN false xs ys h
theorem ne_tN (xs ys : List Nat) (h : Hs) : kNe (.tup (xs.map vN)) (.tup (ys.map vN)) h = .ok (.bl (!decide (xs = ys))) h := eqN true xs ys h
/-! ### loops and displays -/
def rgk1 : List Va → Hs → Rs (Src × Nat) := fun xs h' => match xs with | [.int j] => if -(2 ^ 62) ≤ j ∧ j < 2 ^ 62 then .ok (srcR 0 j.toNat, j.toNat) h' else .bad | _ => .bad
theorem sRg1_k (f : Sm (List Va)) (e : En) (h : Hs) : sRg1 f e h = fwd (f e h) fun xs h' => rgk1 xs h' := sRg1_int e h f
theorem rgk1_ok {j : Nat} {h : Hs} (l : j ≤ 1000000) : rgk1 [.int (j : Nat)] h = .ok (srcR 0 j, j) h := by
  unfold rgk1
  simp only []
  rw [if_pos ⟨by omega, by omega⟩]
  rfl
theorem loop_rg {b : Va → Ss} {n : Nat} {e : En} {h : Hs} {L : Rt} (hL : loop (srcR 0 n) b n 0 e h = L) (I : Nat → En → Hs → Prop) (h0 : I 0 e h)
    (st : ∀ i e h, i < n → I i e h → ∃ e' h', b (.int (i : Nat)) e h = .nx e' h' ∧ I (i + 1) e' h') : ∃ e' h', L = .nx e' h' ∧ I n e' h' :=
  loop_gen hL I h0 (fun i e h hi hI => by
    obtain ⟨e', h', a, c⟩ := st i e h hi hI
    exact ⟨.int (i : Nat), e', h', by simp [hi], a, c⟩) fun e h _ => by simp
theorem loop_xs {xs : List Va} {b : Va → Ss} {n : Nat} {e : En} {h : Hs} {L : Rt} (hL : loop (srcV xs) b n 0 e h = L) (hn : n = xs.length) (I : Nat → En → Hs → Prop) (h0 : I 0 e h)
    (st : ∀ i x e h, xs[i]? = some x → I i e h → ∃ e' h', b x e h = .nx e' h' ∧ I (i + 1) e' h') : ∃ e' h', L = .nx e' h' ∧ I xs.length e' h' := by
  subst hn
  exact loop_gen hL I h0 (fun i e h hi hI => by
    obtain ⟨e', h', q, c⟩ := st i xs[i] e h (List.getElem?_eq_getElem hi) hI
    exact ⟨xs[i], e', h', by simp [hi], q, c⟩) fun e h _ => by simp
theorem itV_tup (xs : List Va) (h : Hs) : itV (.tup xs) h = some (srcV xs, xs.length) := (rfl)
theorem lst_ok {ys : List Va} {h : Hs} : lst_ [] (.ok ys h) = newL ys h := by simp [lst_]
end Fw

set_option Elab.async false
set_option linter.all false
set_option maxRecDepth 100000
set_option maxHeartbeats 4000000
set_option autoImplicit false
namespace Fw
open PySem PySem.Spec L2
open PyProof.Rows hiding St
open Pg (vN)
theorem new1 {a : Va} {h : Hs} : newL [a] h = .ok (.loc h.length) (h ++ [.lst [a]]) := new_ok (by simp)
theorem tpL_ok {n : Nat} {xs : List Va} {h : Hs} (e : h[n]? = some (.lst xs)) : kTpl [.loc n] h = .ok (.tup xs) h := by simp [kTpl, lsA, e]
end Fw

set_option Elab.async false
set_option linter.all false
set_option maxRecDepth 100000
set_option maxHeartbeats 4000000
set_option autoImplicit false
namespace Fw
open PySem PySem.Spec L2
open PyProof.Rows hiding St
open Pg (vN)
end Fw

set_option Elab.async false
set_option linter.all false
set_option maxRecDepth 100000
set_option maxHeartbeats 2000000
set_option autoImplicit false
namespace Fk
open PySem PySem.Spec L2 Fw Pg
open PyProof.Rows hiding St
def b__law_pour : Ss :=
  (seq (sAsg (s2 kAdd (s2 kIx (sVar 0) (sK (.int 1))) (sK (.int 1))) (gSb (sVar 0) (sK (.int 1))))
  (seq (sIf (sBl (s2 kGt (s2 kIx (sVar 0) (sK (.int 2))) (sK (.int 0))))
  (seq (sAsg (sBlt kDvm (sCons (sBlt kInt (sCons (s2 kIx (sVar 0) (sK (.int 2))) sNil)) (sCons (sVar 1) sNil))) (gTp 2 (gsCons (gSb (sVar 0) (sK (.int 2))) (gsCons (gNm 2) gsNil))))
  (sRet (sVar 2)))
  skip)
  (seq (sSet 3 (sBlt kInt (sCons (s2 kIx (sVar 0) (sK (.int 0))) sNil)))
  (seq (sSet 4 (s2 kAdd (s2 kMod (sBlt kInt (sCons (sVar 3) sNil)) (sK (.int 17011))) (sK (.int 61001))))
  (seq (sAsg (s2 kMod (sBlt kInt (sCons (s2 kAdd (s2 kAdd (s2 kMul (sVar 3) (sVar 4)) (s2 kMul (sK (.int 70001)) (s2 kIx (sVar 0) (sK (.int 1))))) (sK (.int 17))) sNil)) (sK (.int 2147482811))) (gSb (sVar 0) (sK (.int 0))))
  (sRet (s2 kMod (sBlt kInt (sCons (s2 kFdv (s2 kIx (sVar 0) (sK (.int 0))) (sK (.int 4099))) sNil)) (sVar 1))))))))
abbrev R__law_pour : Fn := runB 5 b__law_pour
@[irreducible] def G__law_pour : Fn := R__law_pour
def b__law_pick : Ss :=
  (sRet (s2 kIx (sVar 1) (sCall G__law_pour 2 [0, 1] (sCons (sVar 0) (sCons (sBlt kLen (sCons (sVar 1) sNil)) sNil)))))
abbrev R__law_pick : Fn := runB 2 b__law_pick
@[irreducible] def G__law_pick : Fn := R__law_pick
theorem g__law_pick (xs : List Va) (h : Hs) (_ : xs.length = 2) (_ : G__law_pick xs h ≠ .bad) : R__law_pick xs h = G__law_pick xs h := congrFun (congrFun (show R__law_pick = G__law_pick from by unfold G__law_pick; rfl) xs) h
end Fk

set_option Elab.async false
set_option linter.all false
set_option maxRecDepth 100000
set_option maxHeartbeats 4000000
set_option autoImplicit false
namespace Fk
open PySem PySem.Spec L2 Fw Pg
open PyProof.Rows hiding St
theorem q__law_pour : G__law_pour = R__law_pour := by unfold G__law_pour; rfl
theorem q__law_pick : G__law_pick = R__law_pick := by unfold G__law_pick; rfl
theorem pour_ok {h : Hs} {m top : Nat} (q : Mug h m) (t0 : 0 < top) (t1 : top < 1073741824) : ∃ (r : Nat) (h' : Hs), G__law_pour [.loc m, .int top] h = .ok (.int r) h' ∧ r < top ∧ Kp m h h' := by
  rw [q__law_pour]
  have t2 : (0 : Int) < top := by omega
  have t3 : (top : Int) < 1073741824 := by omega
  obtain ⟨a, b, c, e⟩ := q
  have hl := (List.getElem?_eq_some_iff.mp e).1
  have fin : ∀ (x : Int) (a b c : Int), ∃ (r : Nat) (h' : Hs), (x % top = (r : Int) ∧ h.set m (.lst [.int a, .int b, .int c]) = h') ∧ r < top ∧ Kp m h h' := fun x a' b' c' => by
    have h1 := Int.emod_nonneg x (b := (top : Int)) (by omega)
    have h2 := Int.emod_lt_of_pos x t2
    exact ⟨(x % top).toNat, _, ⟨(Int.toNat_of_nonneg h1).symm, rfl⟩, by omega, Kp.set ⟨a, b, c, e⟩ a' b' c'⟩
  have s2 : ∀ x : Ob, (h.set m x)[m]? = some x := fun x => by simp [hl]
  have i0 : ∀ a b c : Va, kIx (.loc m) (.int 0) (h.set m (.lst [a, b, c])) = .ok a (h.set m (.lst [a, b, c])) := fun a b c => ix_loc0 (s2 _)
  have i1 : ∀ a b c : Va, kIx (.loc m) (.int 1) (h.set m (.lst [a, b, c])) = .ok b (h.set m (.lst [a, b, c])) := fun a b c => ix_loc1 (s2 _)
  have i2 : ∀ a b c : Va, kIx (.loc m) (.int 2) (h.set m (.lst [a, b, c])) = .ok c (h.set m (.lst [a, b, c])) := fun a b c => ix_loc2 (s2 _)
  have k0 : ∀ a b c x : Va, kSet (.loc m) (.int 0) x (h.set m (.lst [a, b, c])) = some (h.set m (.lst [x, b, c])) := fun a b c x => by rw [ks3_0 (s2 _), List.set_set]
  have k2 : ∀ a b c x : Va, kSet (.loc m) (.int 2) x (h.set m (.lst [a, b, c])) = some (h.set m (.lst [a, b, x])) := fun a b c x => by rw [ks3_2 (s2 _), List.set_set]
  have k1 : ∀ x : Va, kSet (.loc m) (.int 1) x h = some (h.set m (.lst [.int a, x, .int c])) := fun x => ks3_1 e
  have lt : ∀ x : Int, 0 ≤ x % 17011 ∧ x % 17011 < 17011 := fun x => ⟨Int.emod_nonneg _ (by decide), Int.emod_lt_of_pos _ (by decide)⟩
  have m1 : ∀ x y h, kMul (.int x) (.int (y % 17011 + 61001)) h = .ok (.int (x * (y % 17011 + 61001))) h := fun x y h => by
    have := lt y
    simp only [kMul]
    rw [if_pos (.inr (by omega))]
  have m2 : ∀ y h, kMul (.int 70001) (.int y) h = .ok (.int (70001 * y)) h := fun y h => by simp [kMul]
  by_cases a0 : 0 < c
  · simp [runB_ap, b__law_pour, gSb_ap, ix_loc1 e, i0, i1, i2, k0, k1, k2, m1, m2, kInt, kMod, kFdv, kDvm, a0, t0, t1, t2, t3]
    exact fin _ _ _ _
  · simp [runB_ap, b__law_pour, gSb_ap, ix_loc1 e, i0, i1, i2, k0, k1, k2, m1, m2, kInt, kMod, kFdv, kDvm, a0, t0, t1, t2, t3]
    exact fin _ _ _ _
theorem pick_ok {h : Hs} {m r : Nat} {xs : List Va} (q : Mug h m) (hr : h[r]? = some (.lst xs)) (rm : r ≠ m) (x0 : 0 < xs.length) (x1 : xs.length < 1073741824) : ∃ (x : Va) (h' : Hs), G__law_pick [.loc m, .loc r] h = .ok x h' ∧ x ∈ xs ∧ Kp m h h' := by
  obtain ⟨j, h', e, jl, k⟩ := pour_ok q x0 x1
  refine ⟨xs[j], h', ?_, List.getElem_mem _, k⟩
  rw [q__law_pick]
  simp [runB_ap, b__law_pick, lsA, hr, e, ix_loc (k.old r _ rm hr) (List.getElem?_eq_getElem jl)]
end Fk

set_option Elab.async false
set_option linter.all false
set_option maxRecDepth 100000
set_option maxHeartbeats 4000000
set_option autoImplicit false
namespace Fw
open PySem PySem.Spec L2
open PyProof.Rows hiding St
end Fw

set_option Elab.async false
set_option linter.all false
set_option maxRecDepth 100000
set_option maxHeartbeats 4000000
set_option autoImplicit false
namespace Jr
open PySem PySem.Spec L2 Fw Pg
open PyProof.Rows hiding St
open Dw (sz word)
theorem q__law_dip : G__law_dip = R__law_dip := by unfold G__law_dip; rfl
theorem q__law_pick : G__law_pick = R__law_pick := by unfold G__law_pick; rfl
theorem dip_ok {h : Hs} {m top : Nat} (q : Mug h m) (t0 : 0 < top) (t1 : top < 1073741824) : ∃ (r : Nat) (h' : Hs), G__law_dip [.loc m, .int (top : Nat)] h = .ok (.int (r : Nat)) h' ∧ r < top ∧ Kp m h h' := by
  rw [q__law_dip]
  have t2 : (0 : Int) < top := by omega
  have t3 : (top : Int) < 1073741824 := by omega
  obtain ⟨a, b, c, e⟩ := q
  have hl := (List.getElem?_eq_some_iff.mp e).1
  have fin : ∀ (x : Int) (a b c : Int), ∃ (r : Nat) (h' : Hs), (x % top = (r : Int) ∧ h.set m (.lst [.int a, .int b, .int c]) = h') ∧ r < top ∧ Kp m h h' := fun x a' b' c' => by
    have h1 := Int.emod_nonneg x (b := (top : Int)) (by omega)
    have h2 := Int.emod_lt_of_pos x t2
    exact ⟨(x % top).toNat, _, ⟨(Int.toNat_of_nonneg h1).symm, rfl⟩, by omega, Kp.set ⟨a, b, c, e⟩ a' b' c'⟩
  have s2 : ∀ x : Ob, (h.set m x)[m]? = some x := fun x => by simp [hl]
  have i0 : ∀ a b c : Va, kIx (.loc m) (.int 0) (h.set m (.lst [a, b, c])) = .ok a (h.set m (.lst [a, b, c])) := fun a b c => ix_loc0 (s2 _)
  have i1 : ∀ a b c : Va, kIx (.loc m) (.int 1) (h.set m (.lst [a, b, c])) = .ok b (h.set m (.lst [a, b, c])) := fun a b c => ix_loc1 (s2 _)
  have i2 : ∀ a b c : Va, kIx (.loc m) (.int 2) (h.set m (.lst [a, b, c])) = .ok c (h.set m (.lst [a, b, c])) := fun a b c => ix_loc2 (s2 _)
  have k0 : ∀ a b c x : Va, kSet (.loc m) (.int 0) x (h.set m (.lst [a, b, c])) = some (h.set m (.lst [x, b, c])) := fun a b c x => by rw [ks3_0 (s2 _), List.set_set]
  have k1 : ∀ a b c x : Va, kSet (.loc m) (.int 1) x (h.set m (.lst [a, b, c])) = some (h.set m (.lst [a, x, c])) := fun a b c x => by rw [ks3_1 (s2 _), List.set_set]
  have k2 : ∀ x : Va, kSet (.loc m) (.int 2) x h = some (h.set m (.lst [.int a, .int b, x])) := fun x => ks3_2 e
  have m1 : ∀ x h, kMul (.int x) (.int 46021) h = .ok (.int (x * 46021)) h := fun x h => by simp [kMul]
  have m2 : ∀ y h, kMul (.int 7507) (.int y) h = .ok (.int (7507 * y)) h := fun y h => by simp [kMul]
  by_cases a0 : 0 < a
  · simp [runB_ap, b__law_dip, gSb_ap, ix_loc2 e, i0, i1, i2, k0, k1, k2, m1, m2, kInt, kMod, kFdv, kDvm, a0, t0, t1, t2, t3]
    exact fin _ _ _ _
  · simp [runB_ap, b__law_dip, gSb_ap, ix_loc2 e, i0, i1, i2, k0, k1, k2, m1, m2, kInt, kMod, kFdv, kDvm, a0, t0, t1, t2, t3]
    exact fin _ _ _ _
theorem pick_ok {h : Hs} {m r : Nat} {xs : List Va} (q : Mug h m) (hr : h[r]? = some (.lst xs)) (rm : r ≠ m) (x0 : 0 < xs.length) (x1 : xs.length < 1073741824) : ∃ (x : Va) (h' : Hs), G__law_pick [.loc m, .loc r] h = .ok x h' ∧ x ∈ xs ∧ Kp m h h' := by
  obtain ⟨j, h', e, jl, k⟩ := dip_ok q x0 x1
  refine ⟨xs[j], h', ?_, List.getElem_mem _, k⟩
  rw [q__law_pick]
  simp [runB_ap, b__law_pick, lsA, hr, e, ix_loc (k.old r _ rm hr) (List.getElem?_eq_getElem jl)]
theorem jar_ok {ns : List Int} {k : Nat} {h : Hs} (l : ns.length ≤ 63) : ∃ a b c : Int, G__law_jar [.ros (ns.map Va.int), .int (k : Nat)] h = .ok (.loc h.length) (h ++ [.lst [.int a, .int b, .int c]]) := by
  suffices hh : ∃ (a b c : Int) (h' : Hs) (m : Nat), R__law_jar [.ros (ns.map Va.int), .int (k : Nat)] [] = .ok (.loc m) h' ∧ h'[m]? = some (.lst [.int a, .int b, .int c]) by
    obtain ⟨a, b, c, h', m, e1, e2⟩ := hh
    refine ⟨a, b, c, pureL_of ?_ e1 e2 rfl⟩
    simp only [lfL, lf, lfL_map (g := Va.int) (fun _ => rfl) ns]
    rfl
  have cell : ∃ c : Int, ∀ s z h, sIte (sBl (s2 kLt (sVar 1) (sBlt kLen (sCons (sVar 0) sNil)))) (sBlt kInt (sCons (s2 kIx (sVar 0) (sVar 1)) sNil)) (s2 kAdd (s2 kMul (sK (.int 61)) (sVar 1)) (sK (.int 13))) [some (.ros (ns.map Va.int)), some (.int k), s, z, none] h = .ok (.int c) h := by
    by_cases q : k < ns.length
    · refine ⟨ns[k], fun s z h => ?_⟩
      have : atI (ns.map Va.int) (k : Int) = some (.int ns[k]) := Fw.atI_nat (by simp [q])
      simp [lsA, q, kIx, gIx, this]
    · exact ⟨61 * k + 13, fun s z h => by simp [lsA, q, kMul]⟩
  obtain ⟨c, hc⟩ := cell
  have cl : (cutA ns none (some 9)).length ≤ 63 := Nat.le_trans (cut_len _ _ _) l
  have ab : ∃ a : Int, ∀ s z h, sIte (sOr (sBl (s2 kLt (sVar 4) (sK (.int 0)))) (sBl (s2 kGe (sVar 4) (s2 kPow (sK (.int 10)) (sK (.int 15)))))) (sBlt kAbs (sCons (sVar 4) sNil)) (sK (.int 0)) [some (.ros (ns.map Va.int)), some (.int k), s, z, some (.int c)] h = .ok (.int a) h := by
    by_cases q : c < 0
    · exact ⟨-c, fun s z h => by simp [q]⟩
    · by_cases q2 : (10 : Int) ^ 15 ≤ c
      · exact ⟨c, fun s z h => by
          have q2 : (1000000000000000 : Int) ≤ c := q2
          simp [q, kPow, q2]⟩
      · exact ⟨0, fun s z h => by
          have q2 : ¬ (1000000000000000 : Int) ≤ c := q2
          simp [q, kPow, q2]⟩
  obtain ⟨a, ha⟩ := ab
  have n0 : newL ((cutA ns none (some 9)).map Va.int) [] = .ok (.loc 0) [.lst ((cutA ns none (some 9)).map Va.int)] := new_ok (by simp; omega)
  have k1 : ∀ h, kMul (.int 9007) (.int k) h = .ok (.int (9007 * k)) h := fun h => by simp [kMul]
  have k2 : ∀ h, kMul (.int 50021) (.int c) h = .ok (.int (50021 * c)) h := fun h => by simp [kMul]
  simp [-sIte_ap, runB_ap, b__law_jar, kSl, cut_map, n0, k1]
  generalize hL : loop _ _ _ _ _ _ = L
  generalize hB : (cutA ns none (some 9)) = B at *
  obtain ⟨e', h', rfl, s, z, rfl, rfl⟩ := loop_gen hL (fun i e h => ∃ (s : Int) (z : Option Va), e = [some (.ros (ns.map Va.int)), some (.int k), some (.int s), z, none] ∧ h = [.lst (B.map Va.int)])
    ⟨_, _, rfl, rfl⟩ (by
      rintro i e h1 hi ⟨s, z, rfl, rfl⟩
      obtain ⟨y, ey, _⟩ := drop_cons hi
      have sr : srcL 0 i [.lst (B.map Va.int)] = some (some (.int y)) := by simp [srcL, ey]
      refine ⟨_, _, _, sr, ?_, (s * 33013 + y + 29) % 2147483407, some (.int y), rfl, rfl⟩
      simp [stp, kMul, kInt, kMod]) (by
      rintro e h1 ⟨s, z, rfl, rfl⟩
      simp [srcL])
  simp [-sIte_ap, hc, k2, kInt, kMod, ha, newL]
  exact ⟨_, _, _, _, _, ⟨rfl, rfl⟩, rfl⟩
end Jr

set_option Elab.async false
set_option linter.all false
set_option maxRecDepth 100000
set_option maxHeartbeats 4000000
set_option autoImplicit false
namespace Dk
open PySem PySem.Spec L2 Fw Pg
open PyProof.Rows hiding St
theorem modulusF {s : Nat} {h : Hs} (s0 : 2 ≤ s) : G__modulus [Fd, .int (s : Nat)] h = .ok (.int (2 * s - 1 : Nat)) h := by
  refine pure_of rfl (h' := []) ?_ rfl
  simp [runB_ap, b__modulus, kMul]
  omega
theorem ledF_ok {s p w : Nat} {h : Hs} (s0 : 2 ≤ s) (s1 : s ≤ 100000) (p1 : p < s) (w1 : w < 2 * s) : G__led [Fd, .int (s : Nat), .int (p : Nat), .int (w : Nat)] h = .ok (.int (Dv.led s p w : Nat)) h := by
  refine pure_of rfl (h' := []) ?_ rfl
  have a0 := fun h => modulusF (h := h) s0
  have a1 : ∀ h, kMul (.int 2) (.int (p : Nat)) h = .ok (.int (2 * p : Nat)) h := fun h => mu_ok (a := 2) (by decide)
  have a2 := fun h => mu_ok (a := 2 * p) (b := w) (h := h) (by omega)
  have m0 : 0 < 2 * s - 1 := by omega
  have a3 := fun h => md_ok (a := 2 * p * w) (m := 2 * s - 1) (h := h) m0
  have hl : 2 * p * w % (2 * s - 1) < 2 * s - 1 := Nat.mod_lt _ m0
  unfold Dv.led
  simp only []
  generalize 2 * p * w % (2 * s - 1) = t at *
  have a4 : ∀ h, kMod (.int (t : Nat)) (.int 2) h = .ok (.int (t % 2 : Nat)) h := fun h => md_ok (m := 2) (by decide)
  have a5 : ∀ h, kEq (.int (t % 2 : Nat)) (.int 0) h = .ok (.bl (decide (t % 2 = 0))) h := fun h => eqn_ok (b := 0)
  have a6 : ∀ h, kFdv (.int (t : Nat)) (.int 2) h = .ok (.int (t / 2 : Nat)) h := fun h => fd_ok (m := 2) (by decide) (by decide)
  have a7 := fun h => sb_ok (a := 2 * s - 1) (b := t) (h := h) (by omega)
  have a8 : ∀ h, kFdv (.int (2 * s - 1 - t : Nat)) (.int 2) h = .ok (.int ((2 * s - 1 - t) / 2 : Nat)) h := fun h => fd_ok (m := 2) (by decide) (by decide)
  generalize t % 2 = t2 at *
  generalize t / 2 = t3 at *
  generalize (2 * s - 1 - t) / 2 = t5 at *
  generalize 2 * s - 1 - t = t4 at *
  generalize 2 * p * w = x1 at *
  generalize 2 * p = x0 at *
  generalize 2 * s - 1 = M at *
  have f1 : ∀ h, kEq Fd (.str [111, 117, 116]) h = .ok (.bl false) h := fun h => rfl
  have f2 : ∀ h, kEq Fd (.str [105, 110]) h = .ok (.bl false) h := fun h => rfl
  by_cases c : t2 = 0
  · rw [if_pos c]
    simp only [decide_eq_true c] at a5
    simp [-kEq, -kSub, runB_ap, b__led, a0, a1, a2, a3, a4, a5, a6, a7, a8, f1, f2]
  · rw [if_neg c]
    simp only [decide_eq_false c] at a5
    simp [-kEq, -kSub, runB_ap, b__led, a0, a1, a2, a3, a4, a5, a6, a7, a8, f1, f2]
theorem place_afterF {s p e : Nat} {h : Hs} (s0 : 2 ≤ s) (s1 : s ≤ 100000) (s2 : s % 2 = 0) (p1 : p < s) (e1 : e ≤ 10 ^ 30) : G_place_after [Fd, .int (s : Nat), .int (p : Nat), .int (e : Nat)] h = .ok (.int (Dv.led s p (Dv.pw e (2 * s - 1)) : Nat)) h := by
  refine pure_of rfl (h' := []) ?_ rfl
  have a0 : ∀ h, G_need_shuffle [Fd] h = .ok .non h := fun h => need_shuffle_ok
  have a1 := fun h => need_sizeL (h := h) s0 (by omega) s2
  have a2 := fun h => sb_ok (a := s) (b := 1) (h := h) (by omega)
  have a3 : ∀ h, Pg.G_need_number [.int (p : Nat), .int 0, .int (s - 1 : Nat)] h = .ok .non h := fun h => need_number_ok (by omega) (by omega)
  have a4 : ∀ h, Pg.G_need_number [.int (e : Nat), .int 0, .int 1000000000000000000000000000000] h = .ok .non h := fun h => need_number_ok (by omega) (by omega)
  have a5 := fun h => modulusF (h := h) s0
  have a6 := fun h => power_ok (e := e) (m := 2 * s - 1) (h := h) (by omega) (by omega) (Nat.lt_of_le_of_lt e1 (by decide +kernel))
  have wl := Dv.pw_lt (e := e) (m := 2 * s - 1) (by omega)
  have a7 := fun h => ledF_ok (w := Dv.pw e (2 * s - 1)) (h := h) s0 s1 p1 (by omega)
  generalize Dv.led s p (Dv.pw e (2 * s - 1)) = R at *
  generalize Dv.pw e (2 * s - 1) = w at *
  generalize 2 * s - 1 = M at *
  generalize s - 1 = s1 at *
  have a2 : ∀ h, kSub (.int (s : Nat)) (.int 1) h = .ok (.int (s1 : Nat)) h := a2
  simp [-kSub, runB_ap, b_place_after, a0, a1, a2, a3, a4, a5, a6, a7]
/-- the three words -/
def W3 (w : Nat) : Va := if w = 2 then Fd else Wd (decide (w = 1))
theorem w3_cases {w : Nat} (h : w < 3) : w = 2 ∨ w = 1 ∨ w = 0 := by omega
theorem place3 {w s p e : Nat} {h : Hs} (w3 : w < 3) (s0 : 2 ≤ s) (s1 : s ≤ 100000) (s2 : s % 2 = 0) (p1 : p < s) (e1 : e ≤ 10 ^ 30) : G_place_after [W3 w, .int (s : Nat), .int (p : Nat), .int (e : Nat)] h = .ok (.int (Dv.led3 w s p (2 ^ e % Dv.md3 w s) : Nat)) h := by
  rcases w3_cases w3 with rfl | rfl | rfl
  · have := place_afterF (h := h) s0 s1 s2 p1 e1
    rw [Dv.pw_eq (by omega) (Nat.lt_of_le_of_lt e1 (by decide +kernel))] at this
    exact this
  · exact place_afterB (b := true) s0 (by omega) s2 p1 e1
  · exact place_afterB (b := false) s0 (by omega) s2 p1 e1
theorem deck_dkF (s w : Nat) : ∀ n d, Dv.deck s w n d = Dv.dkF (fun p => Dv.led s p w) s n d
  | 0, d => rfl
  | n + 1, d => by
    rw [Dv.deck, Dv.dkF, deck_dkF s w n]
theorem deck3 {w s e : Nat} {h : Hs} (w3 : w < 3) (s0 : 2 ≤ s) (s1 : s ≤ 1000) (s2 : s % 2 = 0) (e1 : e ≤ 10 ^ 30) : G_deck_after [W3 w, .int (s : Nat), .int (e : Nat)] h = .ok (.tup ((Dv.dkF (fun p => Dv.led3 w s p (2 ^ e % Dv.md3 w s)) s s (List.replicate s 0)).map vN)) h := by
  rcases w3_cases w3 with rfl | rfl | rfl
  · have := deck_after_ok (h := h) s0 s1 s2 e1
    rw [deck_dkF, Dv.pw_eq (by omega) (Nat.lt_of_le_of_lt e1 (by decide +kernel))] at this
    exact this
  · exact deck_afterB (b := true) s0 s1 s2 e1
  · exact deck_afterB (b := false) s0 s1 s2 e1
theorem shuffle3 {w : Nat} {h : Hs} : G_need_shuffle [W3 w] h = .ok .non h := by
  unfold W3
  split
  · exact need_shuffle_ok
  · exact need_shuffleB
theorem modulus3 {w s : Nat} {h : Hs} (w3 : w < 3) (s0 : 2 ≤ s) : G__modulus [W3 w, .int (s : Nat)] h = .ok (.int (Dv.md3 w s : Nat)) h := by
  rcases w3_cases w3 with rfl | rfl | rfl
  · exact modulusF s0
  · exact modulusB (b := true) s0
  · exact modulusB (b := false) s0
theorem W3_fold {w : Nat} {h : Hs} (w3 : w < 3) : kEq (W3 w) (.str [102, 111, 108, 100]) h = .ok (.bl (decide (w = 2))) h := by
  rcases w3_cases w3 with rfl | rfl | rfl <;> rfl
theorem W3_out {w : Nat} {h : Hs} (w3 : w < 3) : kEq (W3 w) (.str [111, 117, 116]) h = .ok (.bl (decide (w = 0))) h := by
  rcases w3_cases w3 with rfl | rfl | rfl <;> rfl
theorem W3_in {w : Nat} {h : Hs} (w3 : w < 3) : kEq (W3 w) (.str [105, 110]) h = .ok (.bl (decide (w = 1))) h := by
  rcases w3_cases w3 with rfl | rfl | rfl <;> rfl
end Dk
namespace Lawk98
open PySem PySem.Spec L2 Fw Pg Dk Jr
open PyProof.Rows hiding St
theorem nin1 {x a : Nat} {h : Hs} : kIn true (.int (x : Nat)) (.tup [.int (a : Nat)]) h = .ok (.bl (!decide (x = a))) h := by
  show Rs.ok (Va.bl (ngB true (inA _ _))) h = _
  simp only [inA, List.any_cons, List.any_nil, Bool.or_false, eqA, ngB, if_true]
  have : (((a : Nat) : Int) == ((x : Nat) : Int)) = decide (x = a) := by
    rw [Bool.eq_iff_iff, beq_iff_eq, decide_eq_true_eq]; omega
  rw [this]
theorem nin2 {x a b : Nat} {h : Hs} : kIn true (.int (x : Nat)) (.tup [.int (a : Nat), .int (b : Nat)]) h = .ok (.bl (!decide (x = a ∨ x = b))) h := by
  show Rs.ok (Va.bl (ngB true (inA _ _))) h = _
  simp only [inA, List.any_cons, List.any_nil, Bool.or_false, eqA, ngB, if_true]
  have : ((((a : Nat) : Int) == ((x : Nat) : Int)) || (((b : Nat) : Int) == ((x : Nat) : Int))) = decide (x = a ∨ x = b) := by
    rw [Bool.eq_iff_iff, Bool.or_eq_true, beq_iff_eq, beq_iff_eq, decide_eq_true_eq]; omega
  rw [this]
/-- the numbers at which a shuffle is back -/
def bks (w m : Nat) : Va := if w = 2 then .tup [.int (1 % m : Nat), .int (m - 1 : Nat)] else .tup [.int (1 % m : Nat)]
theorem nin_bks {w m n : Nat} {h : Hs} (w3 : w < 3) : kIn true (.int (2 ^ n % m : Nat)) (bks w m) h = .ok (.bl (!decide (Dv.hit w m n))) h := by
  unfold bks Dv.hit
  split
  · rename_i e
    rw [nin2]
    congr 3
    exact decide_eq_decide.mpr ⟨fun h => h.imp id fun h => ⟨e, h⟩, fun h => h.imp id fun h => h.2⟩
  · rename_i e
    rw [nin1]
    congr 3
    exact decide_eq_decide.mpr ⟨fun h => .inl h, fun h => h.elim id fun h => absurd h.1 e⟩
theorem order_ok {w s : Nat} (w3 : w < 3) (s0 : 2 ≤ s) (s1 : s ≤ 3002) (sv : s % 2 = 0) : ∃ n, (∀ h, G_order_of [W3 w, .int (s : Nat)] h = .ok (.int (n : Nat)) h) ∧ 1 ≤ n ∧ n ≤ 6005 ∧ Dv.hit w (Dv.md3 w s) n ∧ ∀ j, 1 ≤ j → j < n → ¬ Dv.hit w (Dv.md3 w s) j := by
  have mo := Dv.md3_odd w3 s0 sv
  have ml := Dv.md3_le (w := w) (s := s)
  obtain ⟨n, n1, nm, hn, hj⟩ := Dv.ord_least (w := w) mo
  refine ⟨n, fun h => ?_, n1, by omega, hn, hj⟩
  suffices hh : ∃ h', R_order_of [W3 w, .int (s : Nat)] [] = .ok (.int (n : Nat)) h' by
    obtain ⟨h', hh⟩ := hh
    refine pure_of ?_ hh rfl
    rcases w3_cases w3 with rfl | rfl | rfl <;> rfl
  have a0 : ∀ h, G_need_shuffle [W3 w] h = .ok .non h := fun h => shuffle3
  have a1 := fun h => need_sizeL (h := h) s0 (by omega) sv
  have a2 := fun h => modulus3 (h := h) w3 s0
  have a3 := fun h => W3_fold (h := h) w3
  have m0 : 0 < Dv.md3 w s := by omega
  have nb := fun n h => nin_bks (n := n) (m := Dv.md3 w s) (h := h) w3
  have b0 : bks w (Dv.md3 w s) = if w = 2 then .tup [.int (1 % Dv.md3 w s : Nat), .int (Dv.md3 w s - 1 : Nat)] else .tup [.int (1 % Dv.md3 w s : Nat)] := rfl
  generalize Dv.md3 w s = m at *
  generalize hW : W3 w = W at *
  have t1 := fun h => md_ok (a := 1) (m := m) (h := h) m0
  have t2 := fun h => md_ok (a := 2) (m := m) (h := h) m0
  have t3 := fun h => sb_ok (a := m) (b := 1) (h := h) (by omega)
  have B : ∀ h, sSet 3 (sIte (sBl (s2 kEq (sVar 0) (sK (.str [102, 111, 108, 100])))) (sTup (sCons (s2 kMod (sK (.int 1)) (sVar 2)) (sCons (s2 kSub (sVar 2) (sK (.int 1))) sNil))) (sTup (sCons (s2 kMod (sK (.int 1)) (sVar 2)) sNil))) [some W, some (.int (s : Nat)), some (.int (m : Nat)), none, none, none] h = .nx [some W, some (.int (s : Nat)), some (.int (m : Nat)), some (bks w m), none, none] h := fun h => by
    rw [b0]
    by_cases e : w = 2
    · rw [decide_eq_true e] at a3
      rw [if_pos e]
      simp (disch := first | omega | exact rfl) only [EV0, EV1, EV2, EV3, List.set_cons_zero, List.set_cons_succ, List.length_cons, List.length_nil, List.length_map, Nat.zero_add, List.cons_append, List.nil_append, and_self, and_true, true_and, and_false, false_and, if_true, if_false, decide_true, decide_false, decide_eq_true_eq, Bool.not_true, Bool.not_false, Bool.false_eq_true, Bool.true_eq_false, Bool.not_eq_true, eq_self, not_true_eq_false, not_false_eq_true, List.cons.injEq, Nat.reduceAdd, Nat.reduceLeDiff, Nat.reduceEqDiff, Nat.reduceSub, Nat.reduceMul, ↓reduceIte, reduceCtorEq, a3, t1, t3]
    · rw [decide_eq_false e] at a3
      rw [if_neg e]
      simp (disch := first | omega | exact rfl) only [EV0, EV1, EV2, EV3, List.set_cons_zero, List.set_cons_succ, List.length_cons, List.length_nil, List.length_map, Nat.zero_add, List.cons_append, List.nil_append, and_self, and_true, true_and, and_false, false_and, if_true, if_false, decide_true, decide_false, decide_eq_true_eq, Bool.not_true, Bool.not_false, Bool.false_eq_true, Bool.true_eq_false, Bool.not_eq_true, eq_self, not_true_eq_false, not_false_eq_true, List.cons.injEq, Nat.reduceAdd, Nat.reduceLeDiff, Nat.reduceEqDiff, Nat.reduceSub, Nat.reduceMul, ↓reduceIte, reduceCtorEq, a3, t1]
  simp only [R_order_of, runB_ap, List.map_cons, List.map_nil, List.length_cons, List.length_nil, Nat.zero_add, Nat.reduceAdd, Nat.reduceSub, List.replicate_succ, List.replicate_zero, List.cons_append, List.nil_append]
  unfold b_order_of
  (rw [Fw.seq_ap]; conv => { pattern (Fw.thn _ _); arg 1; simp (disch := first | omega | exact rfl) only [EV0, EV1, EV2, EV3, List.set_cons_zero, List.set_cons_succ, List.length_cons, List.length_nil, List.length_map, Nat.zero_add, List.cons_append, List.nil_append, and_self, and_true, true_and, and_false, false_and, if_true, if_false, decide_true, decide_false, decide_eq_true_eq, Bool.not_true, Bool.not_false, Bool.false_eq_true, Bool.true_eq_false, Bool.not_eq_true, eq_self, not_true_eq_false, not_false_eq_true, List.cons.injEq, Nat.reduceAdd, Nat.reduceLeDiff, Nat.reduceEqDiff, Nat.reduceSub, Nat.reduceMul, ↓reduceIte, reduceCtorEq, a0] }; rw [Fw.thn_nx])
  (rw [Fw.seq_ap]; conv => { pattern (Fw.thn _ _); arg 1; simp (disch := first | omega | exact rfl) only [EV0, EV1, EV2, EV3, List.set_cons_zero, List.set_cons_succ, List.length_cons, List.length_nil, List.length_map, Nat.zero_add, List.cons_append, List.nil_append, and_self, and_true, true_and, and_false, false_and, if_true, if_false, decide_true, decide_false, decide_eq_true_eq, Bool.not_true, Bool.not_false, Bool.false_eq_true, Bool.true_eq_false, Bool.not_eq_true, eq_self, not_true_eq_false, not_false_eq_true, List.cons.injEq, Nat.reduceAdd, Nat.reduceLeDiff, Nat.reduceEqDiff, Nat.reduceSub, Nat.reduceMul, ↓reduceIte, reduceCtorEq, a1] }; rw [Fw.thn_nx])
  (rw [Fw.seq_ap]; conv => { pattern (Fw.thn _ _); arg 1; simp (disch := first | omega | exact rfl) only [EV0, EV1, EV2, EV3, List.set_cons_zero, List.set_cons_succ, List.length_cons, List.length_nil, List.length_map, Nat.zero_add, List.cons_append, List.nil_append, and_self, and_true, true_and, and_false, false_and, if_true, if_false, decide_true, decide_false, decide_eq_true_eq, Bool.not_true, Bool.not_false, Bool.false_eq_true, Bool.true_eq_false, Bool.not_eq_true, eq_self, not_true_eq_false, not_false_eq_true, List.cons.injEq, Nat.reduceAdd, Nat.reduceLeDiff, Nat.reduceEqDiff, Nat.reduceSub, Nat.reduceMul, ↓reduceIte, reduceCtorEq, a2] }; rw [Fw.thn_nx])
  rw [seq_nx (B _)]
  (rw [Fw.seq_ap]; conv => { pattern (Fw.thn _ _); arg 1; simp (disch := first | omega | exact rfl) only [EV0, EV1, EV2, EV3, List.set_cons_zero, List.set_cons_succ, List.length_cons, List.length_nil, List.length_map, Nat.zero_add, List.cons_append, List.nil_append, and_self, and_true, true_and, and_false, false_and, if_true, if_false, decide_true, decide_false, decide_eq_true_eq, Bool.not_true, Bool.not_false, Bool.false_eq_true, Bool.true_eq_false, Bool.not_eq_true, eq_self, not_true_eq_false, not_false_eq_true, List.cons.injEq, Nat.reduceAdd, Nat.reduceLeDiff, Nat.reduceEqDiff, Nat.reduceSub, Nat.reduceMul, ↓reduceIte, reduceCtorEq] }; rw [Fw.thn_nx])
  (rw [Fw.seq_ap]; conv => { pattern (Fw.thn _ _); arg 1; simp (disch := first | omega | exact rfl) only [EV0, EV1, EV2, EV3, List.set_cons_zero, List.set_cons_succ, List.length_cons, List.length_nil, List.length_map, Nat.zero_add, List.cons_append, List.nil_append, and_self, and_true, true_and, and_false, false_and, if_true, if_false, decide_true, decide_false, decide_eq_true_eq, Bool.not_true, Bool.not_false, Bool.false_eq_true, Bool.true_eq_false, Bool.not_eq_true, eq_self, not_true_eq_false, not_false_eq_true, List.cons.injEq, Nat.reduceAdd, Nat.reduceLeDiff, Nat.reduceEqDiff, Nat.reduceSub, Nat.reduceMul, ↓reduceIte, reduceCtorEq, t2] }; rw [Fw.thn_nx])
  rw [seq_ap]
  generalize hL : whl _ _ _ _ _ = L
  obtain ⟨e', h', rfl, rfl⟩ := whl_any hL (fun k en hx => ∃ i, i + k = n ∧ 1 ≤ i ∧ en = [some W, some (.int (s : Nat)), some (.int (m : Nat)), some (bks w m), some (.int (i : Nat)), some (.int (2 ^ i % m : Nat))])
    (fun en hx => en = [some W, some (.int (s : Nat)), some (.int (m : Nat)), some (bks w m), some (.int (n : Nat)), some (.int (2 ^ n % m : Nat))]) (n - 1) (by omega) ⟨1, by omega, Nat.le_refl _, by rw [Nat.pow_one]⟩ (by
    rintro k en hx ⟨i, ik, i1, rfl⟩
    have nbi := nb i
    by_cases c : i = n
    · subst c
      rw [decide_eq_true hn] at nbi
      have nbi : ∀ h, kIn true (.int (2 ^ i % m : Nat)) (bks w m) h = .ok (.bl false) h := nbi
      generalize 2 ^ i % m = P at *
      exact .inl ⟨hx, by simp (disch := first | omega | exact rfl) only [EV0, EV1, EV2, EV3, List.set_cons_zero, List.set_cons_succ, List.length_cons, List.length_nil, List.length_map, Nat.zero_add, List.cons_append, List.nil_append, and_self, and_true, true_and, and_false, false_and, if_true, if_false, decide_true, decide_false, decide_eq_true_eq, Bool.not_true, Bool.not_false, Bool.false_eq_true, Bool.true_eq_false, Bool.not_eq_true, eq_self, not_true_eq_false, not_false_eq_true, List.cons.injEq, Nat.reduceAdd, Nat.reduceLeDiff, Nat.reduceEqDiff, Nat.reduceSub, Nat.reduceMul, ↓reduceIte, reduceCtorEq, nbi], rfl⟩
    · rw [decide_eq_false (hj i i1 (by omega))] at nbi
      have nbi : ∀ h, kIn true (.int (2 ^ i % m : Nat)) (bks w m) h = .ok (.bl true) h := nbi
      have pl := Nat.mod_lt (2 ^ i) m0
      have e2 : 2 ^ (i + 1) % m = 2 * (2 ^ i % m) % m := by rw [Nat.mul_mod_mod, Nat.pow_succ, Nat.mul_comm]
      have u1 := fun h => mu_ok (a := 2) (b := 2 ^ i % m) (h := h) (by omega)
      have u2 := fun h => md_ok (a := 2 * (2 ^ i % m)) (m := m) (h := h) m0
      rw [← e2] at u2
      refine .inr ⟨k - 1, hx, [some W, some (.int (s : Nat)), some (.int (m : Nat)), some (bks w m), some (.int (i + 1 : Nat)), some (.int (2 ^ (i + 1) % m : Nat))], hx, by omega, ?_, ?_, i + 1, by omega, by omega, rfl⟩
      · generalize 2 ^ i % m = P at *
        simp (disch := first | omega | exact rfl) only [EV0, EV1, EV2, EV3, List.set_cons_zero, List.set_cons_succ, List.length_cons, List.length_nil, List.length_map, Nat.zero_add, List.cons_append, List.nil_append, and_self, and_true, true_and, and_false, false_and, if_true, if_false, decide_true, decide_false, decide_eq_true_eq, Bool.not_true, Bool.not_false, Bool.false_eq_true, Bool.true_eq_false, Bool.not_eq_true, eq_self, not_true_eq_false, not_false_eq_true, List.cons.injEq, Nat.reduceAdd, Nat.reduceLeDiff, Nat.reduceEqDiff, Nat.reduceSub, Nat.reduceMul, ↓reduceIte, reduceCtorEq, nbi]
      · generalize 2 ^ (i + 1) % m = P1 at *
        generalize 2 ^ i % m = P at *
        generalize 2 * P = P2 at *
        simp (disch := first | omega | exact rfl) only [EV0, EV1, EV2, EV3, List.set_cons_zero, List.set_cons_succ, List.length_cons, List.length_nil, List.length_map, Nat.zero_add, List.cons_append, List.nil_append, and_self, and_true, true_and, and_false, false_and, if_true, if_false, decide_true, decide_false, decide_eq_true_eq, Bool.not_true, Bool.not_false, Bool.false_eq_true, Bool.true_eq_false, Bool.not_eq_true, eq_self, not_true_eq_false, not_false_eq_true, List.cons.injEq, Nat.reduceAdd, Nat.reduceLeDiff, Nat.reduceEqDiff, Nat.reduceSub, Nat.reduceMul, ↓reduceIte, reduceCtorEq, seq_ap, u1, u2])
  rw [thn_nx]
  generalize 2 ^ n % m = P at *
  exact ⟨_, by simp (disch := first | omega | exact rfl) only [EV0, EV1, EV2, EV3, List.set_cons_zero, List.set_cons_succ, List.length_cons, List.length_nil, List.length_map, Nat.zero_add, List.cons_append, List.nil_append, and_self, and_true, true_and, and_false, false_and, if_true, if_false, decide_true, decide_false, decide_eq_true_eq, Bool.not_true, Bool.not_false, Bool.false_eq_true, Bool.true_eq_false, Bool.not_eq_true, eq_self, not_true_eq_false, not_false_eq_true, List.cons.injEq, Nat.reduceAdd, Nat.reduceLeDiff, Nat.reduceEqDiff, Nat.reduceSub, Nat.reduceMul, ↓reduceIte, reduceCtorEq] <;> rfl⟩
end Lawk98

set_option Elab.async false
set_option linter.all false
set_option maxRecDepth 100000
set_option maxHeartbeats 4000000
set_option autoImplicit false
/-! what a run answers, read off (for tables decided by the kernel) -/
namespace Kt
open PySem PySem.Spec L2 Fw
open PyProof.Rows hiding St
def isBl (b : Bool) : Rs Va → Bool
  | .ok (.bl c) _ => c == b
  | _ => false
theorem isBl_of {b : Bool} {r : Rs Va} (e : isBl b r = true) : ∃ h', r = .ok (.bl b) h' := by
  unfold isBl at e
  split at e
  · rename_i c h'
    exact ⟨h', by rw [eq_of_beq e]⟩
  · cases e
end Kt

set_option Elab.async false
set_option linter.all false
set_option maxRecDepth 100000
set_option maxHeartbeats 4000000
set_option autoImplicit false
namespace Dv
def lpT (w k : Nat) : List (List Nat) := if w = 2 then lps[k]?.getD [] else lB (decide (w = 1)) k
def ordT (w k : Nat) : Nat := if w = 2 then ords[k]?.getD 0 else oB (decide (w = 1)) k
def lcmT (ls : List (List Nat)) : Nat := ls.foldl (fun m l => m * l.length / Nat.gcd m l.length) 1
def tabA (w k : Nat) : Bool := decide (lcmT (lpT w k) = ordT w k ∧ 1 ≤ ordT w k ∧ ordT w k ≤ 60 ∧ hit w (md3 w (2 * (1 + k))) (ordT w k) ∧ (lpT w k).length ≤ 60) && (List.range (ordT w k)).all (fun j => decide (j = 0 ∨ ¬ hit w (md3 w (2 * (1 + k))) j)) && (List.range ((lpT w k).length + 1)).all (fun i => decide (lcmT ((lpT w k).take i) ≤ 60 ∧ 1 ≤ lcmT ((lpT w k).take i))) && (lpT w k).all (fun l => decide (1 ≤ l.length ∧ l.length ≤ 60))
theorem tabA_all : ((List.range 3).all fun w => (List.range 15).all fun k => tabA w k) = true := by decide +kernel
/-- a fraction in lowest terms -/
def lea (a b : Nat) : Nat × Nat := (a / Nat.gcd a b, b / Nat.gcd a b)
def tenN (a b : Nat) : Nat := if 2 * a ≤ b then 2 * a else 2 * b - 2 * a
def tabB (k q : Nat) : Bool := let M := 4 * k + 3; let p := lea (2 * q) M; decide (lea (tenN p.1 p.2) p.2 = lea (2 * st3.hs3 (2 * (1 + k)) q) M ∧ p.1 ≤ p.2 ∧ 1 ≤ p.2 ∧ p.2 ≤ 60)
theorem tabB_all : ((List.range 15).all fun k => (List.range (2 * (1 + k))).all fun q => tabB k q) = true := by decide +kernel
end Dv
namespace Lawk98
open PySem PySem.Spec L2 Fw Pg Dk Jr
open Dv (lpT ordT lcmT tabA tabB lea tenN)
open PyProof.Rows hiding St
theorem ll0 : ((List.range 15).all fun k => isT (R__law_loops [W3 0, .int (2 * (1 + k) : Nat)] []) (lpT 0 k)) = true := by decide +kernel
theorem ll1 : ((List.range 15).all fun k => isT (R__law_loops [W3 1, .int (2 * (1 + k) : Nat)] []) (lpT 1 k)) = true := by decide +kernel
theorem ll2 : ((List.range 15).all fun k => isT (R__law_loops [W3 2, .int (2 * (1 + k) : Nat)] []) (lpT 2 k)) = true := by decide +kernel
theorem rr0 : ((List.range 2).all fun g => Kt.isBl true (R__law_row_right [.int (2 * (1 + 0) : Nat), .int (g : Nat)] [])) = true := by decide +kernel
theorem rr1 : ((List.range 4).all fun g => Kt.isBl true (R__law_row_right [.int (2 * (1 + 1) : Nat), .int (g : Nat)] [])) = true := by decide +kernel
theorem rr2 : ((List.range 6).all fun g => Kt.isBl true (R__law_row_right [.int (2 * (1 + 2) : Nat), .int (g : Nat)] [])) = true := by decide +kernel
theorem rr3 : ((List.range 8).all fun g => Kt.isBl true (R__law_row_right [.int (2 * (1 + 3) : Nat), .int (g : Nat)] [])) = true := by decide +kernel
theorem rr4 : ((List.range 10).all fun g => Kt.isBl true (R__law_row_right [.int (2 * (1 + 4) : Nat), .int (g : Nat)] [])) = true := by decide +kernel
theorem rr5 : ((List.range 12).all fun g => Kt.isBl true (R__law_row_right [.int (2 * (1 + 5) : Nat), .int (g : Nat)] [])) = true := by decide +kernel
theorem rr6 : ((List.range 14).all fun g => Kt.isBl true (R__law_row_right [.int (2 * (1 + 6) : Nat), .int (g : Nat)] [])) = true := by decide +kernel
theorem rr7 : ((List.range 16).all fun g => Kt.isBl true (R__law_row_right [.int (2 * (1 + 7) : Nat), .int (g : Nat)] [])) = true := by decide +kernel
theorem rr8 : ((List.range 18).all fun g => Kt.isBl true (R__law_row_right [.int (2 * (1 + 8) : Nat), .int (g : Nat)] [])) = true := by decide +kernel
theorem rr9 : ((List.range 20).all fun g => Kt.isBl true (R__law_row_right [.int (2 * (1 + 9) : Nat), .int (g : Nat)] [])) = true := by decide +kernel
theorem rr10 : ((List.range 22).all fun g => Kt.isBl true (R__law_row_right [.int (2 * (1 + 10) : Nat), .int (g : Nat)] [])) = true := by decide +kernel
theorem rr11 : ((List.range 24).all fun g => Kt.isBl true (R__law_row_right [.int (2 * (1 + 11) : Nat), .int (g : Nat)] [])) = true := by decide +kernel
theorem rr12 : ((List.range 26).all fun g => Kt.isBl true (R__law_row_right [.int (2 * (1 + 12) : Nat), .int (g : Nat)] [])) = true := by decide +kernel
theorem rr13 : ((List.range 28).all fun g => Kt.isBl true (R__law_row_right [.int (2 * (1 + 13) : Nat), .int (g : Nat)] [])) = true := by decide +kernel
theorem rr14 : ((List.range 30).all fun g => Kt.isBl true (R__law_row_right [.int (2 * (1 + 14) : Nat), .int (g : Nat)] [])) = true := by decide +kernel
theorem rr_all : ∀ k, k < 15 → ((List.range (2 * (1 + k))).all fun g => Kt.isBl true (R__law_row_right [.int (2 * (1 + k) : Nat), .int (g : Nat)] [])) = true := fun k hk => by
  match k, hk with
  | 0, _ => exact rr0
  | 1, _ => exact rr1
  | 2, _ => exact rr2
  | 3, _ => exact rr3
  | 4, _ => exact rr4
  | 5, _ => exact rr5
  | 6, _ => exact rr6
  | 7, _ => exact rr7
  | 8, _ => exact rr8
  | 9, _ => exact rr9
  | 10, _ => exact rr10
  | 11, _ => exact rr11
  | 12, _ => exact rr12
  | 13, _ => exact rr13
  | 14, _ => exact rr14
  | n + 15, h => exact absurd h (by omega)
theorem row_right_ok {k g : Nat} {h : Hs} (hk : k < 15) (hg : g < 2 * (1 + k)) : G__law_row_right [.int (2 * (1 + k) : Nat), .int (g : Nat)] h = .ok (.bl true) h := by
  obtain ⟨h', e⟩ := Kt.isBl_of (List.all_eq_true.mp (rr_all k hk) g (List.mem_range.mpr hg))
  exact pure_of rfl e rfl
theorem lfW3 {w : Nat} (w3 : w < 3) (x : Va) (h : lf x = true) : lfL [W3 w, x] = true := by
  rcases w3_cases w3 with rfl | rfl | rfl <;> simp [W3, Wd, lfL, lf, h]
theorem law_loops_ok {w k : Nat} {h : Hs} (w3 : w < 3) (hk : k < 15) : G__law_loops [W3 w, .int (2 * (1 + k) : Nat)] h = .ok (.tup ((lpT w k).map fun x => .tup (x.map vN))) h := by
  have e : ∃ h', R__law_loops [W3 w, .int (2 * (1 + k) : Nat)] [] = .ok (.tup ((lpT w k).map fun x => Va.tup (x.map fun n => Va.int (n : Nat)))) h' := by
    rcases w3_cases w3 with rfl | rfl | rfl
    · exact isT_of (List.all_eq_true.mp ll2 k (List.mem_range.mpr hk))
    · exact isT_of (List.all_eq_true.mp ll1 k (List.mem_range.mpr hk))
    · exact isT_of (List.all_eq_true.mp ll0 k (List.mem_range.mpr hk))
  obtain ⟨h', e⟩ := e
  exact pure_of (lfW3 w3 _ rfl) e (lf_tups _)
theorem loops3_ok {w k : Nat} {h : Hs} (w3 : w < 3) (hk : k < 15) : G_loops [W3 w, .int (2 * (1 + k) : Nat)] h = .ok (.tup ((lpT w k).map fun x => .tup (x.map vN))) h := by
  rcases w3_cases w3 with rfl | rfl | rfl
  · exact loops_ok (by omega)
  · exact loopsB (b := true) (by omega)
  · exact loopsB (b := false) (by omega)
theorem tab_at {w k : Nat} (w3 : w < 3) (hk : k < 15) : tabA w k = true := List.all_eq_true.mp (List.all_eq_true.mp Dv.tabA_all w (List.mem_range.mpr w3)) k (List.mem_range.mpr hk)
theorem order3_ok {w k : Nat} {h : Hs} (w3 : w < 3) (hk : k < 15) : G_order_of [W3 w, .int (2 * (1 + k) : Nat)] h = .ok (.int (ordT w k : Nat)) h := by
  obtain ⟨n, e, n1, _, hn, hj⟩ := order_ok (w := w) (s := 2 * (1 + k)) w3 (by omega) (by omega) (by omega)
  have t := tab_at w3 hk
  unfold tabA at t
  simp only [Bool.and_eq_true, decide_eq_true_eq, List.all_eq_true, List.mem_range] at t
  obtain ⟨⟨⟨⟨_, o1, _, oh, _⟩, oj⟩, _⟩, _⟩ := t
  have : n = ordT w k := by
    rcases Nat.lt_trichotomy n (ordT w k) with c | c | c
    · rcases oj n c with z | z
      · omega
      · exact absurd hn z
    · exact c
    · exact absurd oh (hj _ o1 c)
  rw [e, this]
theorem next_ok {w s p : Nat} {h : Hs} (w3 : w < 3) (s0 : 2 ≤ s) (sv : s % 2 = 0) (p1 : p < s) : G__law_next [W3 w, .int (s : Nat), .int (p : Nat)] h = .ok (.int (Dv.st3 w s p : Nat)) h := by
  suffices hh : ∃ h', R__law_next [W3 w, .int (s : Nat), .int (p : Nat)] [] = .ok (.int (Dv.st3 w s p : Nat)) h' by
    obtain ⟨h', hh⟩ := hh
    refine pure_of ?_ hh rfl
    rcases w3_cases w3 with rfl | rfl | rfl <;> rfl
  have a1 := fun h => W3_fold (h := h) w3
  have a2 := fun h => W3_out (h := h) w3
  have m2 := fun h => mu_ok (a := 2) (b := p) (h := h) (by decide)
  have m3 := fun h => mu_ok (a := 2) (b := s) (h := h) (by decide)
  have s1 := fun h => sb_ok (a := 2 * s) (b := 1) (h := h) (by omega)
  have s2' := fun h => sb_ok (a := 2 * s - 1) (b := 2 * p) (h := h) (by omega)
  simp only [R__law_next, runB_ap, List.map_cons, List.map_nil, List.length_cons, List.length_nil, Nat.zero_add, Nat.reduceAdd, Nat.reduceSub, List.replicate_succ, List.replicate_zero, List.cons_append, List.nil_append]
  unfold b__law_next
  rcases w3_cases w3 with rfl | rfl | rfl
  · have a1 : ∀ h, kEq (W3 2) (.str [102, 111, 108, 100]) h = .ok (.bl true) h := a1
    have r : Dv.st3 2 s p = if 2 * p < s then 2 * p else 2 * s - 1 - 2 * p := rfl
    rw [r]
    generalize W3 2 = W at *
    by_cases c : 2 * p < s
    · rw [if_pos c]
      exact ⟨_, by simp (disch := first | omega | exact rfl) only [EV0, EV1, EV2, EV3, List.set_cons_zero, List.set_cons_succ, List.length_cons, List.length_nil, List.length_map, Nat.zero_add, List.cons_append, List.nil_append, and_self, and_true, true_and, and_false, false_and, if_true, if_false, decide_true, decide_false, decide_eq_true_eq, Bool.not_true, Bool.not_false, Bool.false_eq_true, Bool.true_eq_false, Bool.not_eq_true, eq_self, not_true_eq_false, not_false_eq_true, List.cons.injEq, Nat.reduceAdd, Nat.reduceLeDiff, Nat.reduceEqDiff, Nat.reduceSub, Nat.reduceMul, ↓reduceIte, reduceCtorEq, seq_ap, a1, m2, lt_ok, c] <;> rfl⟩
    · rw [if_neg c]
      generalize 2 * s - 1 - 2 * p = R at *
      generalize 2 * s - 1 = R1 at *
      exact ⟨_, by simp (disch := first | omega | exact rfl) only [EV0, EV1, EV2, EV3, List.set_cons_zero, List.set_cons_succ, List.length_cons, List.length_nil, List.length_map, Nat.zero_add, List.cons_append, List.nil_append, and_self, and_true, true_and, and_false, false_and, if_true, if_false, decide_true, decide_false, decide_eq_true_eq, Bool.not_true, Bool.not_false, Bool.false_eq_true, Bool.true_eq_false, Bool.not_eq_true, eq_self, not_true_eq_false, not_false_eq_true, List.cons.injEq, Nat.reduceAdd, Nat.reduceLeDiff, Nat.reduceEqDiff, Nat.reduceSub, Nat.reduceMul, ↓reduceIte, reduceCtorEq, seq_ap, a1, m2, lt_ok, c, m3, s1, s2'] <;> rfl⟩
  · have a1 : ∀ h, kEq (W3 1) (.str [102, 111, 108, 100]) h = .ok (.bl false) h := a1
    have a2 : ∀ h, kEq (W3 1) (.str [111, 117, 116]) h = .ok (.bl false) h := a2
    have r : Dv.st3 1 s p = if p < s / 2 then 2 * p + 1 else 2 * p - s := rfl
    rw [r]
    generalize W3 1 = W at *
    by_cases c : 2 * p < s
    · rw [if_pos (by omega)]
      exact ⟨_, by simp (disch := first | omega | exact rfl) only [EV0, EV1, EV2, EV3, List.set_cons_zero, List.set_cons_succ, List.length_cons, List.length_nil, List.length_map, Nat.zero_add, List.cons_append, List.nil_append, and_self, and_true, true_and, and_false, false_and, if_true, if_false, decide_true, decide_false, decide_eq_true_eq, Bool.not_true, Bool.not_false, Bool.false_eq_true, Bool.true_eq_false, Bool.not_eq_true, eq_self, not_true_eq_false, not_false_eq_true, List.cons.injEq, Nat.reduceAdd, Nat.reduceLeDiff, Nat.reduceEqDiff, Nat.reduceSub, Nat.reduceMul, ↓reduceIte, reduceCtorEq, seq_ap, a1, a2, m2, lt_ok, c] <;> rfl⟩
    · rw [if_neg (by omega)]
      have b1 := fun h => sb_ok (a := 2 * p) (b := s) (h := h) (by omega)
      have b2 := fun h => sb_ok (a := 2 * p - s + 1) (b := 1) (h := h) (by omega)
      rw [show 2 * p - s + 1 - 1 = 2 * p - s by omega] at b2
      generalize 2 * p - s = R at *
      exact ⟨_, by simp (disch := first | omega | exact rfl) only [EV0, EV1, EV2, EV3, List.set_cons_zero, List.set_cons_succ, List.length_cons, List.length_nil, List.length_map, Nat.zero_add, List.cons_append, List.nil_append, and_self, and_true, true_and, and_false, false_and, if_true, if_false, decide_true, decide_false, decide_eq_true_eq, Bool.not_true, Bool.not_false, Bool.false_eq_true, Bool.true_eq_false, Bool.not_eq_true, eq_self, not_true_eq_false, not_false_eq_true, List.cons.injEq, Nat.reduceAdd, Nat.reduceLeDiff, Nat.reduceEqDiff, Nat.reduceSub, Nat.reduceMul, ↓reduceIte, reduceCtorEq, seq_ap, a1, a2, m2, lt_ok, c, b1, b2] <;> rfl⟩
  · have a1 : ∀ h, kEq (W3 0) (.str [102, 111, 108, 100]) h = .ok (.bl false) h := a1
    have a2 : ∀ h, kEq (W3 0) (.str [111, 117, 116]) h = .ok (.bl true) h := a2
    have r : Dv.st3 0 s p = if p < s / 2 then 2 * p else 2 * p - s + 1 := rfl
    rw [r]
    generalize W3 0 = W at *
    by_cases c : 2 * p < s
    · rw [if_pos (by omega)]
      exact ⟨_, by simp (disch := first | omega | exact rfl) only [EV0, EV1, EV2, EV3, List.set_cons_zero, List.set_cons_succ, List.length_cons, List.length_nil, List.length_map, Nat.zero_add, List.cons_append, List.nil_append, and_self, and_true, true_and, and_false, false_and, if_true, if_false, decide_true, decide_false, decide_eq_true_eq, Bool.not_true, Bool.not_false, Bool.false_eq_true, Bool.true_eq_false, Bool.not_eq_true, eq_self, not_true_eq_false, not_false_eq_true, List.cons.injEq, Nat.reduceAdd, Nat.reduceLeDiff, Nat.reduceEqDiff, Nat.reduceSub, Nat.reduceMul, ↓reduceIte, reduceCtorEq, seq_ap, a1, a2, m2, lt_ok, c] <;> rfl⟩
    · rw [if_neg (by omega)]
      have b1 := fun h => sb_ok (a := 2 * p) (b := s) (h := h) (by omega)
      have b2 := fun h => sb_ok (a := 2 * p - s + 1) (b := 0) (h := h) (by omega)
      rw [Nat.sub_zero] at b2
      generalize 2 * p - s = R at *
      exact ⟨_, by simp (disch := first | omega | exact rfl) only [EV0, EV1, EV2, EV3, List.set_cons_zero, List.set_cons_succ, List.length_cons, List.length_nil, List.length_map, Nat.zero_add, List.cons_append, List.nil_append, and_self, and_true, true_and, and_false, false_and, if_true, if_false, decide_true, decide_false, decide_eq_true_eq, Bool.not_true, Bool.not_false, Bool.false_eq_true, Bool.true_eq_false, Bool.not_eq_true, eq_self, not_true_eq_false, not_false_eq_true, List.cons.injEq, Nat.reduceAdd, Nat.reduceLeDiff, Nat.reduceEqDiff, Nat.reduceSub, Nat.reduceMul, ↓reduceIte, reduceCtorEq, seq_ap, a1, a2, m2, lt_ok, c, b1, b2] <;> rfl⟩
theorem gcd_step {a b : Nat} (b0 : 0 < b) : Nat.gcd b (a % b) = Nat.gcd a b := by
  rw [Nat.gcd_comm a b, Nat.gcd_rec b a, Nat.gcd_comm]
theorem common_ok {a b : Nat} {h : Hs} (b1 : b < 900) : G__law_common [.int (a : Nat), .int (b : Nat)] h = .ok (.int (Nat.gcd a b : Nat)) h := by
  suffices hh : ∃ h', R__law_common [.int (a : Nat), .int (b : Nat)] [] = .ok (.int (Nat.gcd a b : Nat)) h' by
    obtain ⟨h', hh⟩ := hh
    exact pure_of rfl hh rfl
  simp only [R__law_common, runB_ap, List.map_cons, List.map_nil, List.length_cons, List.length_nil, Nat.zero_add, Nat.reduceAdd, Nat.reduceSub, List.replicate_succ, List.replicate_zero, List.cons_append, List.nil_append, Nat.sub_self, List.append_nil]
  unfold b__law_common
  rw [seq_ap]
  generalize hL : whl _ _ _ _ _ = L
  obtain ⟨e', h', rfl, rfl⟩ := whl_any hL (fun n en hx => ∃ x y : Nat, en = [some (.int (x : Nat)), some (.int (y : Nat))] ∧ y ≤ n ∧ Nat.gcd x y = Nat.gcd a b) (fun en hx => en = [some (.int (Nat.gcd a b : Nat)), some (.int (0 : Nat))]) b (by omega) ⟨a, b, rfl, Nat.le_refl _, rfl⟩ (by
    rintro n en hx ⟨x, y, rfl, yn, g⟩
    by_cases c : y = 0
    · subst c
      rw [Nat.gcd_zero_right] at g
      rw [← g]
      exact .inl ⟨hx, by simp (disch := first | omega | exact rfl) only [EV0, EV1, EV2, EV3, List.set_cons_zero, List.set_cons_succ, List.length_cons, List.length_nil, List.length_map, Nat.zero_add, List.cons_append, List.nil_append, and_self, and_true, true_and, and_false, false_and, if_true, if_false, decide_true, decide_false, decide_eq_true_eq, Bool.not_true, Bool.not_false, Bool.false_eq_true, Bool.true_eq_false, Bool.not_eq_true, eq_self, not_true_eq_false, not_false_eq_true, List.cons.injEq, Nat.reduceAdd, Nat.reduceLeDiff, Nat.reduceEqDiff, Nat.reduceSub, Nat.reduceMul, ↓reduceIte, reduceCtorEq, gt_ok, Nat.lt_irrefl], rfl⟩
    · have y0 : 0 < y := by omega
      have m := fun h => md_ok (a := x) (m := y) (h := h) y0
      have ml := Nat.mod_lt x y0
      refine .inr ⟨n - 1, hx, _, hx, by omega, by simp (disch := first | omega | exact rfl) only [EV0, EV1, EV2, EV3, List.set_cons_zero, List.set_cons_succ, List.length_cons, List.length_nil, List.length_map, Nat.zero_add, List.cons_append, List.nil_append, and_self, and_true, true_and, and_false, false_and, if_true, if_false, decide_true, decide_false, decide_eq_true_eq, Bool.not_true, Bool.not_false, Bool.false_eq_true, Bool.true_eq_false, Bool.not_eq_true, eq_self, not_true_eq_false, not_false_eq_true, List.cons.injEq, Nat.reduceAdd, Nat.reduceLeDiff, Nat.reduceEqDiff, Nat.reduceSub, Nat.reduceMul, ↓reduceIte, reduceCtorEq, gt_ok, y0], by simp (disch := first | omega | exact rfl) only [EV0, EV1, EV2, EV3, List.set_cons_zero, List.set_cons_succ, List.length_cons, List.length_nil, List.length_map, Nat.zero_add, List.cons_append, List.nil_append, and_self, and_true, true_and, and_false, false_and, if_true, if_false, decide_true, decide_false, decide_eq_true_eq, Bool.not_true, Bool.not_false, Bool.false_eq_true, Bool.true_eq_false, Bool.not_eq_true, eq_self, not_true_eq_false, not_false_eq_true, List.cons.injEq, Nat.reduceAdd, Nat.reduceLeDiff, Nat.reduceEqDiff, Nat.reduceSub, Nat.reduceMul, ↓reduceIte, reduceCtorEq, it_ok, m] <;> rfl, y, x % y, rfl, by omega, by rw [gcd_step y0, g]⟩)
  rw [thn_nx]
  exact ⟨_, by simp (disch := first | omega | exact rfl) only [EV0, EV1, EV2, EV3, List.set_cons_zero, List.set_cons_succ, List.length_cons, List.length_nil, List.length_map, Nat.zero_add, List.cons_append, List.nil_append, and_self, and_true, true_and, and_false, false_and, if_true, if_false, decide_true, decide_false, decide_eq_true_eq, Bool.not_true, Bool.not_false, Bool.false_eq_true, Bool.true_eq_false, Bool.not_eq_true, eq_self, not_true_eq_false, not_false_eq_true, List.cons.injEq, Nat.reduceAdd, Nat.reduceLeDiff, Nat.reduceEqDiff, Nat.reduceSub, Nat.reduceMul, ↓reduceIte, reduceCtorEq] <;> rfl⟩
theorem lean_ok {a b : Nat} {h : Hs} (b0 : 0 < b) (b1 : b < 900) (a1 : a < 100000) : G__law_lean [.int (a : Nat), .int (b : Nat)] h = .ok (.tup [.int ((lea a b).1 : Nat), .int ((lea a b).2 : Nat)]) h := by
  suffices hh : ∃ h', R__law_lean [.int (a : Nat), .int (b : Nat)] [] = .ok (.tup [.int ((lea a b).1 : Nat), .int ((lea a b).2 : Nat)]) h' by
    obtain ⟨h', hh⟩ := hh
    exact pure_of rfl hh rfl
  have g0 : 0 < Nat.gcd a b := Nat.gcd_pos_of_pos_right a b0
  have g1 : Nat.gcd a b ≤ b := Nat.gcd_le_right a b0
  have ab : ∀ h, kAbs [.int (a : Nat)] h = .ok (.int (a : Nat)) h := fun h => by simp [kAbs]; omega
  simp only [R__law_lean, runB_ap, List.map_cons, List.map_nil, List.length_cons, List.length_nil, Nat.zero_add, Nat.reduceAdd, Nat.reduceSub, List.replicate_succ, List.replicate_zero, List.cons_append, List.nil_append]
  unfold b__law_lean
  (rw [Fw.seq_ap]; conv => { pattern (Fw.thn _ _); arg 1; simp (disch := first | omega | exact rfl) only [EV0, EV1, EV2, EV3, List.set_cons_zero, List.set_cons_succ, List.length_cons, List.length_nil, List.length_map, Nat.zero_add, List.cons_append, List.nil_append, and_self, and_true, true_and, and_false, false_and, if_true, if_false, decide_true, decide_false, decide_eq_true_eq, Bool.not_true, Bool.not_false, Bool.false_eq_true, Bool.true_eq_false, Bool.not_eq_true, eq_self, not_true_eq_false, not_false_eq_true, List.cons.injEq, Nat.reduceAdd, Nat.reduceLeDiff, Nat.reduceEqDiff, Nat.reduceSub, Nat.reduceMul, ↓reduceIte, reduceCtorEq, ab] }; rw [Fw.thn_nx])
  rw [seq_ap]
  generalize hL : whl _ _ _ _ _ = L
  obtain ⟨e', h', rfl, rfl⟩ := whl_any hL (fun n en hx => ∃ x y : Nat, en = [some (.int (a : Nat)), some (.int (b : Nat)), some (.int (x : Nat)), some (.int (y : Nat))] ∧ y ≤ n ∧ Nat.gcd x y = Nat.gcd a b) (fun en hx => en = [some (.int (a : Nat)), some (.int (b : Nat)), some (.int (Nat.gcd a b : Nat)), some (.int (0 : Nat))]) b (by omega) ⟨a, b, rfl, Nat.le_refl _, rfl⟩ (by
    rintro n en hx ⟨x, y, rfl, yn, g⟩
    by_cases c : y = 0
    · subst c
      rw [Nat.gcd_zero_right] at g
      rw [← g]
      exact .inl ⟨hx, by simp (disch := first | omega | exact rfl) only [EV0, EV1, EV2, EV3, List.set_cons_zero, List.set_cons_succ, List.length_cons, List.length_nil, List.length_map, Nat.zero_add, List.cons_append, List.nil_append, and_self, and_true, true_and, and_false, false_and, if_true, if_false, decide_true, decide_false, decide_eq_true_eq, Bool.not_true, Bool.not_false, Bool.false_eq_true, Bool.true_eq_false, Bool.not_eq_true, eq_self, not_true_eq_false, not_false_eq_true, List.cons.injEq, Nat.reduceAdd, Nat.reduceLeDiff, Nat.reduceEqDiff, Nat.reduceSub, Nat.reduceMul, ↓reduceIte, reduceCtorEq, gt_ok, Nat.lt_irrefl], rfl⟩
    · have y0 : 0 < y := by omega
      have m := fun h => md_ok (a := x) (m := y) (h := h) y0
      have ml := Nat.mod_lt x y0
      refine .inr ⟨n - 1, hx, _, hx, by omega, by simp (disch := first | omega | exact rfl) only [EV0, EV1, EV2, EV3, List.set_cons_zero, List.set_cons_succ, List.length_cons, List.length_nil, List.length_map, Nat.zero_add, List.cons_append, List.nil_append, and_self, and_true, true_and, and_false, false_and, if_true, if_false, decide_true, decide_false, decide_eq_true_eq, Bool.not_true, Bool.not_false, Bool.false_eq_true, Bool.true_eq_false, Bool.not_eq_true, eq_self, not_true_eq_false, not_false_eq_true, List.cons.injEq, Nat.reduceAdd, Nat.reduceLeDiff, Nat.reduceEqDiff, Nat.reduceSub, Nat.reduceMul, ↓reduceIte, reduceCtorEq, gt_ok, y0], by simp (disch := first | omega | exact rfl) only [EV0, EV1, EV2, EV3, List.set_cons_zero, List.set_cons_succ, List.length_cons, List.length_nil, List.length_map, Nat.zero_add, List.cons_append, List.nil_append, and_self, and_true, true_and, and_false, false_and, if_true, if_false, decide_true, decide_false, decide_eq_true_eq, Bool.not_true, Bool.not_false, Bool.false_eq_true, Bool.true_eq_false, Bool.not_eq_true, eq_self, not_true_eq_false, not_false_eq_true, List.cons.injEq, Nat.reduceAdd, Nat.reduceLeDiff, Nat.reduceEqDiff, Nat.reduceSub, Nat.reduceMul, ↓reduceIte, reduceCtorEq, it_ok, m] <;> rfl, y, x % y, rfl, by omega, by rw [gcd_step y0, g]⟩)
  rw [thn_nx]
  have d1 := fun h => fd_ok (a := a) (m := Nat.gcd a b) (h := h) g0 (by omega)
  have d2 := fun h => fd_ok (a := b) (m := Nat.gcd a b) (h := h) g0 (by omega)
  unfold lea
  simp only []
  generalize a / Nat.gcd a b = R1 at *
  generalize b / Nat.gcd a b = R2 at *
  generalize Nat.gcd a b = g at *
  exact ⟨_, by simp (disch := first | omega | exact rfl) only [EV0, EV1, EV2, EV3, List.set_cons_zero, List.set_cons_succ, List.length_cons, List.length_nil, List.length_map, Nat.zero_add, List.cons_append, List.nil_append, and_self, and_true, true_and, and_false, false_and, if_true, if_false, decide_true, decide_false, decide_eq_true_eq, Bool.not_true, Bool.not_false, Bool.false_eq_true, Bool.true_eq_false, Bool.not_eq_true, eq_self, not_true_eq_false, not_false_eq_true, List.cons.injEq, Nat.reduceAdd, Nat.reduceLeDiff, Nat.reduceEqDiff, Nat.reduceSub, Nat.reduceMul, ↓reduceIte, reduceCtorEq, d1, d2] <;> rfl⟩
theorem tent_ok {a b : Nat} {h : Hs} (ab : a ≤ b) (b0 : 1 ≤ b) (b1 : b ≤ 60) : G__law_tent [.tup [.int (a : Nat), .int (b : Nat)]] h = .ok (.tup [.int ((lea (tenN a b) b).1 : Nat), .int ((lea (tenN a b) b).2 : Nat)]) h := by
  suffices hh : ∃ h', R__law_tent [.tup [.int (a : Nat), .int (b : Nat)]] [] = .ok (.tup [.int ((lea (tenN a b) b).1 : Nat), .int ((lea (tenN a b) b).2 : Nat)]) h' by
    obtain ⟨h', hh⟩ := hh
    exact pure_of rfl hh rfl
  have i0 := fun (a b : Va) h => ix_tupN (h := h) (xs := [a, b]) (i := 0) (x := a) rfl
  have i1 := fun (a b : Va) h => ix_tupN (h := h) (xs := [a, b]) (i := 1) (x := b) rfl
  have m1 := fun h => mu_ok (a := 2) (b := a) (h := h) (by decide)
  have m2 := fun h => mu_ok (a := 2) (b := b) (h := h) (by decide)
  have s1 := fun h => sb_ok (a := 2 * b) (b := 2 * a) (h := h) (by omega)
  have tl : tenN a b ≤ 120 := by unfold tenN; split <;> omega
  have le := fun h => lean_ok (a := tenN a b) (b := b) (h := h) (by omega) (by omega) (by omega)
  simp only [R__law_tent, runB_ap, List.map_cons, List.map_nil, List.length_cons, List.length_nil, Nat.zero_add, Nat.reduceAdd, Nat.reduceSub, List.replicate_succ, List.replicate_zero, List.cons_append, List.nil_append, Nat.sub_self, List.append_nil]
  unfold b__law_tent
  by_cases c : 2 * a ≤ b
  · have e : tenN a b = 2 * a := if_pos c
    rw [e] at le ⊢
    generalize lea (2 * a) b = R at *
    exact ⟨_, by simp (disch := first | omega | exact rfl) only [EV0, EV1, EV2, EV3, List.set_cons_zero, List.set_cons_succ, List.length_cons, List.length_nil, List.length_map, Nat.zero_add, List.cons_append, List.nil_append, and_self, and_true, true_and, and_false, false_and, if_true, if_false, decide_true, decide_false, decide_eq_true_eq, Bool.not_true, Bool.not_false, Bool.false_eq_true, Bool.true_eq_false, Bool.not_eq_true, eq_self, not_true_eq_false, not_false_eq_true, List.cons.injEq, Nat.reduceAdd, Nat.reduceLeDiff, Nat.reduceEqDiff, Nat.reduceSub, Nat.reduceMul, ↓reduceIte, reduceCtorEq, seq_ap, i0, i1, m1, le_ok, c, le] <;> rfl⟩
  · have e : tenN a b = 2 * b - 2 * a := if_neg c
    rw [e] at le ⊢
    generalize lea (2 * b - 2 * a) b = R at *
    generalize 2 * b - 2 * a = R1 at *
    exact ⟨_, by simp (disch := first | omega | exact rfl) only [EV0, EV1, EV2, EV3, List.set_cons_zero, List.set_cons_succ, List.length_cons, List.length_nil, List.length_map, Nat.zero_add, List.cons_append, List.nil_append, and_self, and_true, true_and, and_false, false_and, if_true, if_false, decide_true, decide_false, decide_eq_true_eq, Bool.not_true, Bool.not_false, Bool.false_eq_true, Bool.true_eq_false, Bool.not_eq_true, eq_self, not_true_eq_false, not_false_eq_true, List.cons.injEq, Nat.reduceAdd, Nat.reduceLeDiff, Nat.reduceEqDiff, Nat.reduceSub, Nat.reduceMul, ↓reduceIte, reduceCtorEq, seq_ap, i0, i1, m1, m2, s1, le_ok, c, le] <;> rfl⟩
end Lawk98

set_option Elab.async false
set_option linter.all false
set_option maxRecDepth 100000
set_option maxHeartbeats 4000000
set_option autoImplicit false
/-! tuples of tuples of numbers, read off; more of Kt -/
namespace Kt
open PySem PySem.Spec L2 Fw Pg
open PyProof.Rows hiding St
theorem neG (X Y : List (List Nat)) (h : Hs) : kNe (.tup (X.map fun q => .tup (q.map vN))) (.tup (Y.map fun q => .tup (q.map vN))) h = .ok (.bl (!decide (X = Y))) h := eqE (α := List (List Nat)) true (by decide) X Y (fun _ _ _ _ => trivial) (fun _ _ _ _ => trivial) h
end Kt

set_option Elab.async false
set_option linter.all false
set_option maxRecDepth 100000
set_option maxHeartbeats 4000000
set_option autoImplicit false
namespace Pg
open PySem PySem.Spec L2 Fw
open PyProof.Rows hiding St
end Pg

set_option Elab.async false
set_option linter.all false
set_option maxRecDepth 100000
set_option maxHeartbeats 4000000
set_option autoImplicit false
namespace Fw
open PySem PySem.Spec L2
open PyProof.Rows hiding St
open Pg (vN)
end Fw
namespace Pg
open PySem PySem.Spec L2 Fw
open PyProof.Rows hiding St
open Dw (Mt it2 fts walk srtN rgo rds mt)
end Pg

set_option Elab.async false
set_option linter.all false
set_option maxRecDepth 100000
set_option maxHeartbeats 4000000
set_option autoImplicit false
namespace Fw
open PySem PySem.Spec L2
open PyProof.Rows hiding St
end Fw
namespace Pg
open PySem PySem.Spec L2 Fw
open PyProof.Rows hiding St
open Dw (Mt it2 fts walk srtN rgo rds mt)
def fl (met : List Nat) (x : Nat) : Va := .bl (met.contains x)
theorem mul_rep {n N : Nat} {x : Va} {h : Hs} (e : h[n]? = some (.lst [x])) (l : N ≤ 1000000) : kMul (.loc n) (.int (N : Nat)) h = .ok (.loc h.length) (h ++ [.lst (List.replicate N x)]) := by
  simp only [kMul, e]
  rw [if_pos ⟨by omega, by omega, by simp; omega⟩, Int.toNat_natCast, flat_rep]
  exact new_ok (by simp; omega)
end Pg

set_option Elab.async false
set_option linter.all false
set_option maxRecDepth 100000
set_option maxHeartbeats 4000000
set_option autoImplicit false
namespace Lawk98
open PySem PySem.Spec L2 Fw Pg Dk Jr
open Dv (lpT ordT lcmT tabA tabB lea tenN dkF led3 md3 st3)
open Kt (neG)
open PyProof.Rows hiding St
theorem q__law_small_right : G__law_small_right = R__law_small_right := by unfold G__law_small_right; rfl
theorem q__law_great_right : G__law_great_right = R__law_great_right := by unfold G__law_great_right; rfl
theorem q__law_right : G__law_right = R__law_right := by unfold G__law_right; rfl
theorem lcm_snoc (ls : List (List Nat)) (l : List Nat) : lcmT (ls ++ [l]) = lcmT ls * l.length / Nat.gcd (lcmT ls) l.length := by
  unfold lcmT
  rw [List.foldl_append]
  rfl
theorem Kp_len {m : Nat} {h h' : Hs} (k : Kp m h h') : h.length ≤ h'.length := by
  apply Classical.byContradiction
  intro c
  by_cases e : h'.length = m
  · obtain ⟨a, b, d, w⟩ := k.mug
    have := (List.getElem?_eq_some_iff.mp w).1
    omega
  · have := k.old h'.length h[h'.length] e (List.getElem?_eq_getElem (by omega))
    have := (List.getElem?_eq_some_iff.mp this).1
    omega
theorem Kp_set {m D : Nat} {h h' : Hs} {o : Ob} (k : Kp m h h') (Dm : D ≠ m) (l : h.length ≤ D) : Kp m h (h'.set D o) := by
  refine ⟨?_, fun i u n e => ?_⟩
  · obtain ⟨a, b, c, e⟩ := k.mug
    exact ⟨a, b, c, by rw [List.getElem?_set_ne Dm]; exact e⟩
  · have il := (List.getElem?_eq_some_iff.mp e).1
    rw [List.getElem?_set_ne (by omega)]
    exact k.old i u n e
theorem small_right_ok {h : Hs} {m w k : Nat} (q : Mug h m) (w3 : w < 3) (hk : k < 15) : ∃ h', G__law_small_right [.loc m, W3 w, .int (2 * (1 + k) : Nat)] h = .ok (.bl true) h' ∧ Kp m h h' := by
  have t := tab_at w3 hk
  unfold tabA at t
  simp only [Bool.and_eq_true, decide_eq_true_eq, List.all_eq_true, List.mem_range] at t
  obtain ⟨⟨⟨⟨tl, o1, o60, oh, L60⟩, _⟩, tp⟩, tln⟩ := t
  rw [q__law_small_right]
  simp only [R__law_small_right, runB_ap, List.map_cons, List.map_nil, List.length_cons, List.length_nil, Nat.zero_add, Nat.reduceAdd, Nat.reduceSub, List.replicate_succ, List.replicate_zero, List.cons_append, List.nil_append]
  unfold b__law_small_right
  obtain ⟨r, h1, e1, r9, k1⟩ := dip_ok q (top := 9) (by decide) (by decide)
  have lo := fun h => law_loops_ok (h := h) w3 hk
  have lp := fun h => loops3_ok (h := h) w3 hk
  have od := fun h => order3_ok (h := h) w3 hk
  have s0 : 2 ≤ 2 * (1 + k) := by omega
  have sv : 2 * (1 + k) % 2 = 0 := by omega
  have sl : 2 * (1 + k) ≤ 30 := by omega
  have nx1 := fun p h (hp : p < 2 * (1 + k)) => next_ok (h := h) w3 s0 sv hp
  have pl := fun p h (hp : p < 2 * (1 + k)) => place3 (e := r + ordT w k * 10 ^ 20) (h := h) w3 s0 (by omega) sv hp (by
    have : ordT w k * 10 ^ 20 ≤ 60 * 10 ^ 20 := Nat.mul_le_mul_right _ o60
    have : (60 * 10 ^ 20 + 8 : Nat) ≤ 10 ^ 30 := by decide
    omega)
  rw [Dv.far3 w3 s0 oh] at pl
  have dk := fun h => deck3 (e := r) (h := h) w3 s0 (by omega) sv (Nat.le_trans (show r ≤ 8 by omega) (by decide))
  have st3' := fun p e (hp : p < 2 * (1 + k)) => Dv.step3 (e := e) w3 s0 sv hp
  have z3 := fun p (hp : p < 2 * (1 + k)) => Dv.led3_zero (w := w) s0 hp
  have ll := fun p e (hp : p < 2 * (1 + k)) => Dv.led3_lt (w := w) (x := 2 ^ e % md3 w (2 * (1 + k))) s0 hp
  generalize hS : 2 * (1 + k) = s at *
  generalize md3 w s = M at *
  generalize hW : W3 w = W at *
  have neL := fun (X : List (List Nat)) h => neG X X h
  (rw [Fw.seq_ap]; conv => { pattern (Fw.thn _ _); arg 1; simp (disch := first | omega | exact rfl) only [EV0, EV1, EV2, EV3, List.set_cons_zero, List.set_cons_succ, List.length_cons, List.length_nil, List.length_map, Nat.zero_add, List.cons_append, List.nil_append, and_self, and_true, true_and, and_false, false_and, if_true, if_false, decide_true, decide_false, decide_eq_true_eq, Bool.not_true, Bool.not_false, Bool.false_eq_true, Bool.true_eq_false, Bool.not_eq_true, eq_self, not_true_eq_false, not_false_eq_true, List.cons.injEq, Nat.reduceAdd, Nat.reduceLeDiff, Nat.reduceEqDiff, Nat.reduceSub, Nat.reduceMul, ↓reduceIte, reduceCtorEq, e1, lo] }; rw [Fw.thn_nx])
  (rw [Fw.seq_ap]; conv => { pattern (Fw.thn _ _); arg 1; simp (disch := first | omega | exact rfl) only [EV0, EV1, EV2, EV3, List.set_cons_zero, List.set_cons_succ, List.length_cons, List.length_nil, List.length_map, Nat.zero_add, List.cons_append, List.nil_append, and_self, and_true, true_and, and_false, false_and, if_true, if_false, decide_true, decide_false, decide_eq_true_eq, Bool.not_true, Bool.not_false, Bool.false_eq_true, Bool.true_eq_false, Bool.not_eq_true, eq_self, not_true_eq_false, not_false_eq_true, List.cons.injEq, Nat.reduceAdd, Nat.reduceLeDiff, Nat.reduceEqDiff, Nat.reduceSub, Nat.reduceMul, ↓reduceIte, reduceCtorEq] }; rw [Fw.thn_nx])
  have itL := fun h => itV_tup ((lpT w k).map fun x => Va.tup (x.map vN)) h
  (rw [Fw.seq_ap]; conv => { pattern (Fw.thn _ _); arg 1; simp (disch := first | omega | exact rfl) only [EV0, EV1, EV2, EV3, List.set_cons_zero, List.set_cons_succ, List.length_cons, List.length_nil, List.length_map, Nat.zero_add, List.cons_append, List.nil_append, and_self, and_true, true_and, and_false, false_and, if_true, if_false, decide_true, decide_false, decide_eq_true_eq, Bool.not_true, Bool.not_false, Bool.false_eq_true, Bool.true_eq_false, Bool.not_eq_true, eq_self, not_true_eq_false, not_false_eq_true, List.cons.injEq, Nat.reduceAdd, Nat.reduceLeDiff, Nat.reduceEqDiff, Nat.reduceSub, Nat.reduceMul, ↓reduceIte, reduceCtorEq, itL] })
  generalize hL : loop _ _ _ _ _ _ = L
  obtain ⟨e', h2, rfl, z6, rfl, k2⟩ := loop_xs hL (by rw [List.length_map]) (fun i en hx => ∃ z6, en = [some (.loc m), some W, some (.int (s : Nat)), some (.int (r : Nat)), some (.tup ((lpT w k).map fun x => Va.tup (x.map vN))), some (.int (lcmT ((lpT w k).take i) : Nat)), z6, none, none, none, none] ∧ Kp m h hx)
    ⟨none, rfl, k1⟩ (by
    rintro i x en hx ex ⟨z6, rfl, kx⟩
    rw [List.getElem?_map] at ex
    obtain ⟨l, el, rfl⟩ := Option.map_eq_some_iff.mp ex
    have il := (List.getElem?_eq_some_iff.mp el).1
    have ls := tln l (List.mem_of_getElem? el)
    have mi := tp i (by omega)
    have tk : (lpT w k).take (i + 1) = (lpT w k).take i ++ [l] := by rw [List.take_succ, el]; rfl
    have ll : ∀ h, kLen [.tup (l.map vN)] h = .ok (.int (l.length : Nat)) h := fun h => by rw [ln_tup, List.length_map]
    have co := fun h => common_ok (a := lcmT ((lpT w k).take i)) (b := l.length) (h := h) (by omega)
    have mu := fun h => mu_ok (a := lcmT ((lpT w k).take i)) (b := l.length) (h := h) (by omega)
    have g0 : 0 < Nat.gcd (lcmT ((lpT w k).take i)) l.length := Nat.gcd_pos_of_pos_right _ (by omega)
    have g1 : Nat.gcd (lcmT ((lpT w k).take i)) l.length ≤ l.length := Nat.gcd_le_right _ (by omega)
    have fd := fun h => fd_ok (a := lcmT ((lpT w k).take i) * l.length) (m := Nat.gcd (lcmT ((lpT w k).take i)) l.length) (h := h) g0 (by omega)
    have sn := lcm_snoc ((lpT w k).take i) l
    rw [← tk] at sn
    rw [← sn] at fd
    generalize lcmT ((lpT w k).take i) = A at *
    generalize lcmT ((lpT w k).take (i + 1)) = B at *
    generalize Nat.gcd A l.length = G at *
    generalize A * l.length = P at *
    exact ⟨_, _, by simp (disch := first | omega | exact rfl) only [EV0, EV1, EV2, EV3, List.set_cons_zero, List.set_cons_succ, List.length_cons, List.length_nil, List.length_map, Nat.zero_add, List.cons_append, List.nil_append, and_self, and_true, true_and, and_false, false_and, if_true, if_false, decide_true, decide_false, decide_eq_true_eq, Bool.not_true, Bool.not_false, Bool.false_eq_true, Bool.true_eq_false, Bool.not_eq_true, eq_self, not_true_eq_false, not_false_eq_true, List.cons.injEq, Nat.reduceAdd, Nat.reduceLeDiff, Nat.reduceEqDiff, Nat.reduceSub, Nat.reduceMul, ↓reduceIte, reduceCtorEq, stp_ap, gNm_ap, ll, mu, co, fd] <;> rfl, _, rfl, kx⟩)
  rw [thn_nx, List.take_of_length_le (by rw [List.length_map]; exact Nat.le_refl _), tl]
  have ne0 : ∀ h, kNe (.tup ((lpT w k).map fun q => .tup (q.map vN))) (.tup ((lpT w k).map fun q => .tup (q.map vN))) h = .ok (.bl false) h := fun h => by
    have := neL (lpT w k) h
    rw [decide_eq_true rfl] at this
    exact this
  have nn0 : ∀ (i : Nat) h, kNe (.int (i : Nat)) (.int (i : Nat)) h = .ok (.bl false) h := fun i h => by rw [nen_ok, decide_eq_true rfl]; rfl
  (rw [Fw.seq_ap]; conv => { pattern (Fw.thn _ _); arg 1; simp (disch := first | omega | exact rfl) only [EV0, EV1, EV2, EV3, List.set_cons_zero, List.set_cons_succ, List.length_cons, List.length_nil, List.length_map, Nat.zero_add, List.cons_append, List.nil_append, and_self, and_true, true_and, and_false, false_and, if_true, if_false, decide_true, decide_false, decide_eq_true_eq, Bool.not_true, Bool.not_false, Bool.false_eq_true, Bool.true_eq_false, Bool.not_eq_true, eq_self, not_true_eq_false, not_false_eq_true, List.cons.injEq, Nat.reduceAdd, Nat.reduceLeDiff, Nat.reduceEqDiff, Nat.reduceSub, Nat.reduceMul, ↓reduceIte, reduceCtorEq, lp, ne0, od, nn0] }; rw [Fw.thn_nx])
  -- the deck
  have hZ := last_at h2 (Ob.lst [.int (0 : Nat)])
  have mr := mul_rep (N := s) hZ (by omega)
  (rw [Fw.seq_ap]; conv => { pattern (Fw.thn _ _); arg 1; simp (disch := first | omega | exact rfl) only [EV0, EV1, EV2, EV3, List.set_cons_zero, List.set_cons_succ, List.length_cons, List.length_nil, List.length_map, Nat.zero_add, List.cons_append, List.nil_append, and_self, and_true, true_and, and_false, false_and, if_true, if_false, decide_true, decide_false, decide_eq_true_eq, Bool.not_true, Bool.not_false, Bool.false_eq_true, Bool.true_eq_false, Bool.not_eq_true, eq_self, not_true_eq_false, not_false_eq_true, List.cons.injEq, Nat.reduceAdd, Nat.reduceLeDiff, Nat.reduceEqDiff, Nat.reduceSub, Nat.reduceMul, ↓reduceIte, reduceCtorEq, new1, mr] }; rw [Fw.thn_nx])
  have k3 := (k2.new (Ob.lst [.int (0 : Nat)])).new (Ob.lst (List.replicate s (.int (0 : Nat))))
  have hD := last_at (h2 ++ [Ob.lst [Va.int (0 : Nat)]]) (Ob.lst (List.replicate s (Va.int (0 : Nat))))
  have Dm : (h2 ++ [Ob.lst [Va.int (0 : Nat)]]).length ≠ m := Mug.ne (k2.new _).mug
  have Dl : h.length ≤ (h2 ++ [Ob.lst [Va.int (0 : Nat)]]).length := Kp_len (k2.new _)
  generalize (h2 ++ [Ob.lst [Va.int (0 : Nat)]]).length = D at *
  generalize (h2 ++ [Ob.lst [Va.int (0 : Nat)]]) ++ [Ob.lst (List.replicate s (Va.int (0 : Nat)))] = h3 at *
  have rg : ∀ h, rgk1 [.int (s : Nat)] h = .ok (srcR 0 s, s) h := fun h => rgk1_ok (by omega)
  have rgr : ∀ h, rgk1 [.int (r : Nat)] h = .ok (srcR 0 r, r) h := fun h => rgk1_ok (by omega)
  have p20 : ∀ h, kPow (.int (10 : Nat)) (.int (20 : Nat)) h = .ok (.int (10 ^ 20 : Nat)) h := fun h => rfl
  have mu2 := fun h => mu_ok (a := ordT w k) (b := 10 ^ 20) (h := h) (by omega)
  have ad2 : ∀ h, kAdd (.int (r : Nat)) (.int (ordT w k * 10 ^ 20 : Nat)) h = .ok (.int (r + ordT w k * 10 ^ 20 : Nat)) h := fun h => rfl
  generalize hE : r + ordT w k * 10 ^ 20 = E at *
  generalize hP : ordT w k * 10 ^ 20 = P at *
  generalize hT : (10 : Nat) ^ 20 = T at *
  (rw [Fw.seq_ap]; conv => { pattern (Fw.thn _ _); arg 1; simp (disch := first | omega | exact rfl) only [EV0, EV1, EV2, EV3, List.set_cons_zero, List.set_cons_succ, List.length_cons, List.length_nil, List.length_map, Nat.zero_add, List.cons_append, List.nil_append, and_self, and_true, true_and, and_false, false_and, if_true, if_false, decide_true, decide_false, decide_eq_true_eq, Bool.not_true, Bool.not_false, Bool.false_eq_true, Bool.true_eq_false, Bool.not_eq_true, eq_self, not_true_eq_false, not_false_eq_true, List.cons.injEq, Nat.reduceAdd, Nat.reduceLeDiff, Nat.reduceEqDiff, Nat.reduceSub, Nat.reduceMul, ↓reduceIte, reduceCtorEq, sRg1_k, rg] })
  generalize hL2 : loop _ _ _ _ _ _ = L2
  obtain ⟨e', h4, rfl, z8, z9, z10, d, rfl, hD, dl, de, k4⟩ := loop_rg hL2 (fun i en hx => ∃ (z8 z9 z10 : Option Va) (d : List Nat), en = [some (.loc m), some W, some (.int (s : Nat)), some (.int (r : Nat)), some (.tup ((lpT w k).map fun x => Va.tup (x.map vN))), some (.int (ordT w k : Nat)), z6, some (.loc D), z8, z9, z10] ∧ hx[D]? = some (.lst (d.map vN)) ∧ d.length = s ∧ dkF (fun p => led3 w s p (2 ^ r % M)) s (s - i) d = dkF (fun p => led3 w s p (2 ^ r % M)) s s (List.replicate s 0) ∧ Kp m h hx)
    ⟨none, none, none, List.replicate s 0, rfl, by rw [hD]; simp [vN], by simp, by rw [Nat.sub_zero], k3⟩ (by
    rintro i en hx hi ⟨z8, z9, z10, d, rfl, hDx, dl, de, kx⟩
    -- the card is led
    have lap : ∃ z10', loop (srcR 0 r) (stp (gNm 10) (sSet 9 (sCall G__law_next 3 [0, 1, 2] (sCons (sVar 1) (sCons (sVar 2) (sCons (sVar 9) sNil)))))) r 0 [some (.loc m), some W, some (.int (s : Nat)), some (.int (r : Nat)), some (.tup ((lpT w k).map fun x => Va.tup (x.map vN))), some (.int (ordT w k : Nat)), z6, some (.loc D), some (.int (i : Nat)), some (.int (i : Nat)), z10] hx = .nx [some (.loc m), some W, some (.int (s : Nat)), some (.int (r : Nat)), some (.tup ((lpT w k).map fun x => Va.tup (x.map vN))), some (.int (ordT w k : Nat)), z6, some (.loc D), some (.int (i : Nat)), some (.int (led3 w s i (2 ^ r % M) : Nat)), z10'] hx := by
      generalize hL3 : loop (srcR 0 r) _ r 0 _ _ = L3
      obtain ⟨e', h5, rfl, z, rfl, rfl⟩ := loop_rg hL3 (fun j en hy => ∃ z, en = [some (.loc m), some W, some (.int (s : Nat)), some (.int (r : Nat)), some (.tup ((lpT w k).map fun x => Va.tup (x.map vN))), some (.int (ordT w k : Nat)), z6, some (.loc D), some (.int (i : Nat)), some (.int (led3 w s i (2 ^ j % M) : Nat)), z] ∧ hx = hy)
        ⟨z10, by rw [z3 i hi], rfl⟩ (by
        rintro j en hy hj ⟨z, rfl, rfl⟩
        have n1 := fun h => nx1 (led3 w s i (2 ^ j % M)) h (ll i j hi)
        rw [st3' i j hi] at n1
        generalize led3 w s i (2 ^ j % M) = A at *
        generalize led3 w s i (2 ^ (j + 1) % M) = B at *
        exact ⟨_, _, by simp (disch := first | omega | exact rfl) only [EV0, EV1, EV2, EV3, List.set_cons_zero, List.set_cons_succ, List.length_cons, List.length_nil, List.length_map, Nat.zero_add, List.cons_append, List.nil_append, and_self, and_true, true_and, and_false, false_and, if_true, if_false, decide_true, decide_false, decide_eq_true_eq, Bool.not_true, Bool.not_false, Bool.false_eq_true, Bool.true_eq_false, Bool.not_eq_true, eq_self, not_true_eq_false, not_false_eq_true, List.cons.injEq, Nat.reduceAdd, Nat.reduceLeDiff, Nat.reduceEqDiff, Nat.reduceSub, Nat.reduceMul, ↓reduceIte, reduceCtorEq, stp_ap, gNm_ap, n1] <;> rfl, _, rfl, rfl⟩)
      exact ⟨z, rfl⟩
    obtain ⟨z10', lap⟩ := lap
    have pa := fun h => pl i h hi
    have lA := ll i r hi
    have e1' : s - i = (s - (i + 1)) + 1 := by omega
    rw [e1', Dv.dkF, show s - (s - (i + 1) + 1) = i by omega] at de
    generalize hA : led3 w s i (2 ^ r % M) = A at *
    have ks := ks_nat (h := hx) (n := D) (i := A) (x := .int (i : Nat)) (xs := d.map vN) hDx (by rw [List.length_map]; omega)
    have e3 : (d.map vN).set A (.int (i : Nat)) = (d.set A i).map vN := by rw [List.map_set]; rfl
    rw [e3] at ks
    refine ⟨_, _, by simp (disch := first | omega | exact rfl) only [EV0, EV1, EV2, EV3, List.set_cons_zero, List.set_cons_succ, List.length_cons, List.length_nil, List.length_map, Nat.zero_add, List.cons_append, List.nil_append, and_self, and_true, true_and, and_false, false_and, if_true, if_false, decide_true, decide_false, decide_eq_true_eq, Bool.not_true, Bool.not_false, Bool.false_eq_true, Bool.true_eq_false, Bool.not_eq_true, eq_self, not_true_eq_false, not_false_eq_true, List.cons.injEq, Nat.reduceAdd, Nat.reduceLeDiff, Nat.reduceEqDiff, Nat.reduceSub, Nat.reduceMul, ↓reduceIte, reduceCtorEq, stp_ap, gNm_ap, seq_ap, sFor_ap, sRg1_k, rgr, lap, gSb_ap, ks, p20, mu2, ad2, pa, nn0] <;> rfl, _, _, _, d.set A i, rfl, ?_, by rw [List.length_set]; exact dl, de, ?_⟩
    · rw [List.getElem?_set_self (by exact (List.getElem?_eq_some_iff.mp hDx).1)]
    · exact Kp_set kx Dm Dl)
  rw [thn_nx]
  rw [Nat.sub_self, Dv.dkF] at de
  rw [← de] at dk
  have tpl := tpL_ok hD
  have eqd := fun h => eq_tN d d h
  simp only [decide_true] at eqd
  exact ⟨_, by simp (disch := first | omega | exact rfl) only [EV0, EV1, EV2, EV3, List.set_cons_zero, List.set_cons_succ, List.length_cons, List.length_nil, List.length_map, Nat.zero_add, List.cons_append, List.nil_append, and_self, and_true, true_and, and_false, false_and, if_true, if_false, decide_true, decide_false, decide_eq_true_eq, Bool.not_true, Bool.not_false, Bool.false_eq_true, Bool.true_eq_false, Bool.not_eq_true, eq_self, not_true_eq_false, not_false_eq_true, List.cons.injEq, Nat.reduceAdd, Nat.reduceLeDiff, Nat.reduceEqDiff, Nat.reduceSub, Nat.reduceMul, ↓reduceIte, reduceCtorEq, dk, tpl, eqd] <;> rfl, k4⟩
end Lawk98

set_option Elab.async false
set_option linter.all false
set_option maxRecDepth 100000
set_option maxHeartbeats 4000000
set_option autoImplicit false
namespace Lawk98
open PySem PySem.Spec L2 Fw Pg Dk Jr
open Dv (lea tenN led3 md3 st3 hit)
open PyProof.Rows hiding St
abbrev Ws : List Va := [.str [111, 117, 116], .str [105, 110], .str [102, 111, 108, 100]]
theorem word_ok {h h0 : Hs} {m : Nat} (k0 : Kp m h0 h) : ∃ (w : Nat) (h' : Hs), G__law_pick [.loc m, .loc h.length] (h ++ [.lst Ws]) = .ok (W3 w) h' ∧ w < 3 ∧ Kp m h0 h' := by
  obtain ⟨x, h', e, mx, k⟩ := pick_ok (k0.new (.lst Ws)).mug (last_at h (.lst Ws)) (Mug.ne k0.mug) (by decide) (by decide)
  simp only [List.mem_cons, List.not_mem_nil, or_false] at mx
  rcases mx with rfl | rfl | rfl
  · exact ⟨0, h', e, by decide, (k0.new _).trans k⟩
  · exact ⟨1, h', e, by decide, (k0.new _).trans k⟩
  · exact ⟨2, h', e, by decide, (k0.new _).trans k⟩
theorem great_right_ok {h : Hs} {m : Nat} (q : Mug h m) : ∃ h', G__law_great_right [.loc m] h = .ok (.bl true) h' ∧ Kp m h h' := by
  rw [q__law_great_right]
  simp only [R__law_great_right, runB_ap, List.map_cons, List.map_nil, List.length_cons, List.length_nil, Nat.zero_add, Nat.reduceAdd, Nat.reduceSub, List.replicate_succ, List.replicate_zero, List.cons_append, List.nil_append]
  unfold b__law_great_right
  obtain ⟨r, h1, e1, rb, k1⟩ := dip_ok q (top := 1500) (by decide) (by decide)
  obtain ⟨w, h2, e2, w3, k2⟩ := word_ok k1
  have mu := fun h => mu_ok (a := 2) (b := r) (h := h) (by decide)
  have ad : ∀ h, kAdd (.int (2 : Nat)) (.int (2 * r : Nat)) h = .ok (.int (2 + 2 * r : Nat)) h := fun h => rfl
  have sM' : 2 + 2 * r ≤ 3000 := by omega
  have sv' : (2 + 2 * r) % 2 = 0 := by omega
  generalize 2 * r = r2 at *
  have nwW : ∀ h, newL [Va.str [111, 117, 116], .str [105, 110], .str [102, 111, 108, 100]] h = .ok (.loc h.length) (h ++ [.lst Ws]) := fun h => new_ok (by decide)
  have s0 : 2 ≤ 2 + r2 := by omega
  have sM := sM'
  have sv := sv'
  generalize hs : 2 + r2 = s at *
  (rw [Fw.seq_ap]; conv => { pattern (Fw.thn _ _); arg 1; simp (disch := first | omega | exact rfl) only [EV0, EV1, EV2, EV3, List.set_cons_zero, List.set_cons_succ, List.length_cons, List.length_nil, List.length_map, Nat.zero_add, List.cons_append, List.nil_append, and_self, and_true, true_and, and_false, false_and, if_true, if_false, decide_true, decide_false, decide_eq_true_eq, Bool.not_true, Bool.not_false, Bool.false_eq_true, Bool.true_eq_false, Bool.not_eq_true, eq_self, not_true_eq_false, not_false_eq_true, List.cons.injEq, Nat.reduceAdd, Nat.reduceLeDiff, Nat.reduceEqDiff, Nat.reduceSub, Nat.reduceMul, ↓reduceIte, reduceCtorEq, e1, mu, ad, nwW, e2] }; rw [Fw.thn_nx])
  obtain ⟨n, od, n1, n6, hn, hj⟩ := order_ok (w := w) (s := s) w3 s0 (by omega) sv
  obtain ⟨p, h3, e3, pb, k3⟩ := dip_ok k2.mug (top := s) (by omega) (by omega)
  have k3 := k2.trans k3
  have pl := fun h => place3 (e := n) (h := h) w3 s0 (by omega) sv pb (Nat.le_trans n6 (by decide))
  rw [Dv.home3 w3 s0 pb hn] at pl
  have pl1 := fun h => place3 (e := 1) (h := h) w3 s0 (by omega) sv pb (by decide)
  have nxt := fun h => next_ok (h := h) w3 s0 sv pb
  have st := Dv.step3 (e := 0) w3 s0 sv pb
  rw [Dv.led3_zero s0 pb, Nat.zero_add] at st
  rw [← st] at pl1
  have ff := fun h => W3_fold (h := h) w3
  have fo := fun h => W3_out (h := h) w3
  have fi := fun h => W3_in (h := h) w3
  have mo := Dv.md3_odd w3 s0 sv
  have mle := Dv.md3_le (w := w) (s := s)
  have m1w : md3 w s = 1 → w = 0 := fun e => by
    unfold md3 at e
    by_cases a : w = 2
    · rw [if_pos a] at e; omega
    · rw [if_neg a] at e
      by_cases b : w = 1
      · rw [if_pos b] at e; omega
      · omega
  have sb1 := fun h => sb_ok (a := s) (b := 1) (h := h) (by omega)
  have ad1 : ∀ h, kAdd (.int (s : Nat)) (.int (1 : Nat)) h = .ok (.int (s + 1 : Nat)) h := fun h => rfl
  have mu2 := fun h => mu_ok (a := 2) (b := s) (h := h) (by decide)
  have sb2 := fun h => sb_ok (a := 2 * s) (b := 1) (h := h) (by omega)
  have nn0 : ∀ (i : Nat) h, kNe (.int (i : Nat)) (.int (i : Nat)) h = .ok (.bl false) h := fun i h => by rw [nen_ok, decide_eq_true rfl]; rfl
  have base : ∀ (z3 z4 z5 z6 z7 z8 : Option Va) (h : Hs), sSet 5 (sIte (sBl (s2 kEq (sVar 2) (sK (.str [111, 117, 116])))) (s2 kSub (sVar 1) (sK (.int 1))) (sIte (sBl (s2 kEq (sVar 2) (sK (.str [105, 110])))) (s2 kAdd (sVar 1) (sK (.int 1))) (s2 kSub (s2 kMul (sK (.int 2)) (sVar 1)) (sK (.int 1))))) [some (.loc m), some (.int (s : Nat)), some (W3 w), z3, z4, z5, z6, z7, z8] h = .nx [some (.loc m), some (.int (s : Nat)), some (W3 w), z3, z4, some (.int (md3 w s : Nat)), z6, z7, z8] h := fun z3 z4 z5 z6 z7 z8 h => by
    rcases w3_cases w3 with rfl | rfl | rfl
    · have fo : ∀ h, kEq (W3 2) (.str [111, 117, 116]) h = .ok (.bl false) h := fo
      have fi : ∀ h, kEq (W3 2) (.str [105, 110]) h = .ok (.bl false) h := fi
      have e : md3 2 s = 2 * s - 1 := rfl
      rw [e]
      generalize W3 2 = W at *
      generalize 2 * s - 1 = R at *
      simp (disch := first | omega | exact rfl) only [EV0, EV1, EV2, EV3, List.set_cons_zero, List.set_cons_succ, List.length_cons, List.length_nil, List.length_map, Nat.zero_add, List.cons_append, List.nil_append, and_self, and_true, true_and, and_false, false_and, if_true, if_false, decide_true, decide_false, decide_eq_true_eq, Bool.not_true, Bool.not_false, Bool.false_eq_true, Bool.true_eq_false, Bool.not_eq_true, eq_self, not_true_eq_false, not_false_eq_true, List.cons.injEq, Nat.reduceAdd, Nat.reduceLeDiff, Nat.reduceEqDiff, Nat.reduceSub, Nat.reduceMul, ↓reduceIte, reduceCtorEq, fo, fi, mu2, sb2]
    · have fo : ∀ h, kEq (W3 1) (.str [111, 117, 116]) h = .ok (.bl false) h := fo
      have fi : ∀ h, kEq (W3 1) (.str [105, 110]) h = .ok (.bl true) h := fi
      have e : md3 1 s = s + 1 := rfl
      rw [e]
      generalize W3 1 = W at *
      generalize s + 1 = R at *
      simp (disch := first | omega | exact rfl) only [EV0, EV1, EV2, EV3, List.set_cons_zero, List.set_cons_succ, List.length_cons, List.length_nil, List.length_map, Nat.zero_add, List.cons_append, List.nil_append, and_self, and_true, true_and, and_false, false_and, if_true, if_false, decide_true, decide_false, decide_eq_true_eq, Bool.not_true, Bool.not_false, Bool.false_eq_true, Bool.true_eq_false, Bool.not_eq_true, eq_self, not_true_eq_false, not_false_eq_true, List.cons.injEq, Nat.reduceAdd, Nat.reduceLeDiff, Nat.reduceEqDiff, Nat.reduceSub, Nat.reduceMul, ↓reduceIte, reduceCtorEq, fo, fi, ad1]
    · have fo : ∀ h, kEq (W3 0) (.str [111, 117, 116]) h = .ok (.bl true) h := fo
      have e : md3 0 s = s - 1 := rfl
      rw [e]
      generalize W3 0 = W at *
      generalize s - 1 = R at *
      simp (disch := first | omega | exact rfl) only [EV0, EV1, EV2, EV3, List.set_cons_zero, List.set_cons_succ, List.length_cons, List.length_nil, List.length_map, Nat.zero_add, List.cons_append, List.nil_append, and_self, and_true, true_and, and_false, false_and, if_true, if_false, decide_true, decide_false, decide_eq_true_eq, Bool.not_true, Bool.not_false, Bool.false_eq_true, Bool.true_eq_false, Bool.not_eq_true, eq_self, not_true_eq_false, not_false_eq_true, List.cons.injEq, Nat.reduceAdd, Nat.reduceLeDiff, Nat.reduceEqDiff, Nat.reduceSub, Nat.reduceMul, ↓reduceIte, reduceCtorEq, fo, sb1]
  generalize hM : md3 w s = M at *
  generalize hW : W3 w = W at *
  (rw [Fw.seq_ap]; conv => { pattern (Fw.thn _ _); arg 1; simp (disch := first | omega | exact rfl) only [EV0, EV1, EV2, EV3, List.set_cons_zero, List.set_cons_succ, List.length_cons, List.length_nil, List.length_map, Nat.zero_add, List.cons_append, List.nil_append, and_self, and_true, true_and, and_false, false_and, if_true, if_false, decide_true, decide_false, decide_eq_true_eq, Bool.not_true, Bool.not_false, Bool.false_eq_true, Bool.true_eq_false, Bool.not_eq_true, eq_self, not_true_eq_false, not_false_eq_true, List.cons.injEq, Nat.reduceAdd, Nat.reduceLeDiff, Nat.reduceEqDiff, Nat.reduceSub, Nat.reduceMul, ↓reduceIte, reduceCtorEq, od, e3] }; rw [Fw.thn_nx])
  (rw [Fw.seq_ap]; conv => { pattern (Fw.thn _ _); arg 1; simp (disch := first | omega | exact rfl) only [EV0, EV1, EV2, EV3, List.set_cons_zero, List.set_cons_succ, List.length_cons, List.length_nil, List.length_map, Nat.zero_add, List.cons_append, List.nil_append, and_self, and_true, true_and, and_false, false_and, if_true, if_false, decide_true, decide_false, decide_eq_true_eq, Bool.not_true, Bool.not_false, Bool.false_eq_true, Bool.true_eq_false, Bool.not_eq_true, eq_self, not_true_eq_false, not_false_eq_true, List.cons.injEq, Nat.reduceAdd, Nat.reduceLeDiff, Nat.reduceEqDiff, Nat.reduceSub, Nat.reduceMul, ↓reduceIte, reduceCtorEq, pl, nn0] }; rw [Fw.thn_nx])
  rw [seq_nx (base _ _ _ _ _ _ _)]
  (rw [Fw.seq_ap]; conv => { pattern (Fw.thn _ _); arg 1; simp (disch := first | omega | exact rfl) only [EV0, EV1, EV2, EV3, List.set_cons_zero, List.set_cons_succ, List.length_cons, List.length_nil, List.length_map, Nat.zero_add, List.cons_append, List.nil_append, and_self, and_true, true_and, and_false, false_and, if_true, if_false, decide_true, decide_false, decide_eq_true_eq, Bool.not_true, Bool.not_false, Bool.false_eq_true, Bool.true_eq_false, Bool.not_eq_true, eq_self, not_true_eq_false, not_false_eq_true, List.cons.injEq, Nat.reduceAdd, Nat.reduceLeDiff, Nat.reduceEqDiff, Nat.reduceSub, Nat.reduceMul, ↓reduceIte, reduceCtorEq] }; rw [Fw.thn_nx])
  have mn : ∀ h, kMin [.int (n : Nat), .int (3000 : Nat)] h = .ok (.int (min n 3000 : Nat)) h := fun h => mn_ok
  generalize hN : min n 3000 = N at *
  have rg : ∀ h, rgk1 [.int (N : Nat)] h = .ok (srcR 0 N, N) h := fun h => rgk1_ok (by omega)
  have sbn := fun h => sb_ok (a := n) (b := 1) (h := h) (by omega)
  have sbm := fun h => sb_ok (a := M) (b := 1) (h := h) (by omega)
  (rw [Fw.seq_ap]; conv => { pattern (Fw.thn _ _); arg 1; simp (disch := first | omega | exact rfl) only [EV0, EV1, EV2, EV3, List.set_cons_zero, List.set_cons_succ, List.length_cons, List.length_nil, List.length_map, Nat.zero_add, List.cons_append, List.nil_append, and_self, and_true, true_and, and_false, false_and, if_true, if_false, decide_true, decide_false, decide_eq_true_eq, Bool.not_true, Bool.not_false, Bool.false_eq_true, Bool.true_eq_false, Bool.not_eq_true, eq_self, not_true_eq_false, not_false_eq_true, List.cons.injEq, Nat.reduceAdd, Nat.reduceLeDiff, Nat.reduceEqDiff, Nat.reduceSub, Nat.reduceMul, ↓reduceIte, reduceCtorEq, mn, sRg1_k, rg] })
  generalize hL : loop _ _ _ _ _ _ = L
  obtain ⟨e', h4, rfl, z6, z7, z8, rfl, k4⟩ : ∃ e' h', L = .nx e' h' ∧ ∃ (z6 z7 z8 : Option Va), e' = [some (.loc m), some (.int (s : Nat)), some W, some (.int (n : Nat)), some (.int (p : Nat)), some (.int (M : Nat)), z6, z7, z8] ∧ Kp m h h' := by
    obtain ⟨e', h4, e, x, z7, z8, rfl, _, k4⟩ := loop_rg hL (fun i en hx => ∃ (x : Nat) (z7 z8 : Option Va), en = [some (.loc m), some (.int (s : Nat)), some W, some (.int (n : Nat)), some (.int (p : Nat)), some (.int (M : Nat)), some (.int (x : Nat)), z7, z8] ∧ (1 < M → x = 2 ^ i % M) ∧ Kp m h hx)
      ⟨1, none, none, rfl, fun c => by rw [Nat.pow_zero, Nat.mod_eq_of_lt c], k3⟩ (by
      rintro i en hx hi ⟨x, z7, z8, rfl, hx', kx⟩
      have ii : i + 1 ≤ n := by omega
      have eqn1 : ∀ (b : Nat) h, kEq (.int (i : Nat)) (.int (b : Nat)) h = .ok (.bl (decide (i = b))) h := fun b h => eqn_ok
      have hh : hit w M (i + 1) ↔ i = n - 1 := ⟨fun a => Classical.byContradiction fun c => hj (i + 1) (by omega) (by omega) a, fun a => by rw [a, show n - 1 + 1 = n by omega]; exact hn⟩
      by_cases cM : 1 < M
      · have hx' := hx' cM
        have xl : x < M := by rw [hx']; exact Nat.mod_lt _ (by omega)
        have e2 : 2 ^ (i + 1) % M = 2 * x % M := by rw [hx', Nat.mul_mod_mod, Nat.pow_succ, Nat.mul_comm]
        have u1 := fun h => mu_ok (a := 2) (b := x) (h := h) (by decide)
        have u2 := fun h => md_ok (a := 2 * x) (m := M) (h := h) (by omega)
        rw [← e2] at u2
        have o1 : 1 % M = 1 := Nat.mod_eq_of_lt cM
        unfold Dv.hit at hh
        rw [o1] at hh
        generalize 2 ^ (i + 1) % M = R at *
        generalize 2 * x = X2 at *
        generalize n - 1 = N1 at *
        generalize hM1 : M - 1 = M1 at *
        have f1 : ∀ h, kEq (.int (R : Nat)) (.int (1 : Nat)) h = .ok (.bl (decide (R = 1))) h := fun h => eqn_ok
        have f2 : ∀ h, kEq (.int (R : Nat)) (.int (M1 : Nat)) h = .ok (.bl (decide (R = M1))) h := fun h => eqn_ok
        have f3 : ∀ h, kEq (.int (M : Nat)) (.int (1 : Nat)) h = .ok (.bl false) h := fun h => by rw [eqn_ok, decide_eq_false (by omega)]
        have g1 : ∀ h, kGt (.int (M : Nat)) (.int (1 : Nat)) h = .ok (.bl true) h := fun h => by rw [gt_ok, decide_eq_true cM]
        have nb : ∀ (b : Bool) h, kNe (.bl b) (.bl b) h = .ok (.bl false) h := fun b h => by cases b <;> rfl
        by_cases c1 : R = 1
        · have ei : decide (i = N1) = true := decide_eq_true (hh.mp (.inl c1))
          rw [decide_eq_true c1] at f1
          exact ⟨_, _, by simp (disch := first | omega | exact rfl) only [EV0, EV1, EV2, EV3, List.set_cons_zero, List.set_cons_succ, List.length_cons, List.length_nil, List.length_map, Nat.zero_add, List.cons_append, List.nil_append, and_self, and_true, true_and, and_false, false_and, if_true, if_false, decide_true, decide_false, decide_eq_true_eq, Bool.not_true, Bool.not_false, Bool.false_eq_true, Bool.true_eq_false, Bool.not_eq_true, eq_self, not_true_eq_false, not_false_eq_true, List.cons.injEq, Nat.reduceAdd, Nat.reduceLeDiff, Nat.reduceEqDiff, Nat.reduceSub, Nat.reduceMul, ↓reduceIte, reduceCtorEq, stp_ap, gNm_ap, seq_ap, g1, u1, it_ok, u2, f1, sbn, eqn1, ei, nb] <;> rfl, _, _, _, rfl, fun _ => rfl, kx⟩
        · rw [decide_eq_false c1] at f1
          by_cases c2 : w = 2
          · rw [decide_eq_true c2] at ff
            by_cases c3 : R = M1
            · have ei : decide (i = N1) = true := decide_eq_true (hh.mp (.inr ⟨c2, c3⟩))
              rw [decide_eq_true c3] at f2
              exact ⟨_, _, by simp (disch := first | omega | exact rfl) only [EV0, EV1, EV2, EV3, List.set_cons_zero, List.set_cons_succ, List.length_cons, List.length_nil, List.length_map, Nat.zero_add, List.cons_append, List.nil_append, and_self, and_true, true_and, and_false, false_and, if_true, if_false, decide_true, decide_false, decide_eq_true_eq, Bool.not_true, Bool.not_false, Bool.false_eq_true, Bool.true_eq_false, Bool.not_eq_true, eq_self, not_true_eq_false, not_false_eq_true, List.cons.injEq, Nat.reduceAdd, Nat.reduceLeDiff, Nat.reduceEqDiff, Nat.reduceSub, Nat.reduceMul, ↓reduceIte, reduceCtorEq, stp_ap, gNm_ap, seq_ap, g1, u1, it_ok, u2, f1, ff, sbm, f2, sbn, eqn1, ei, nb] <;> rfl, _, _, _, rfl, fun _ => rfl, kx⟩
            · have ei : decide (i = N1) = false := decide_eq_false fun w => (hh.mpr w).elim c1 fun z => c3 z.2
              rw [decide_eq_false c3] at f2
              exact ⟨_, _, by simp (disch := first | omega | exact rfl) only [EV0, EV1, EV2, EV3, List.set_cons_zero, List.set_cons_succ, List.length_cons, List.length_nil, List.length_map, Nat.zero_add, List.cons_append, List.nil_append, and_self, and_true, true_and, and_false, false_and, if_true, if_false, decide_true, decide_false, decide_eq_true_eq, Bool.not_true, Bool.not_false, Bool.false_eq_true, Bool.true_eq_false, Bool.not_eq_true, eq_self, not_true_eq_false, not_false_eq_true, List.cons.injEq, Nat.reduceAdd, Nat.reduceLeDiff, Nat.reduceEqDiff, Nat.reduceSub, Nat.reduceMul, ↓reduceIte, reduceCtorEq, stp_ap, gNm_ap, seq_ap, g1, u1, it_ok, u2, f1, ff, sbm, f2, f3, sbn, eqn1, ei, nb] <;> rfl, _, _, _, rfl, fun _ => rfl, kx⟩
          · have ei : decide (i = N1) = false := decide_eq_false fun w => (hh.mpr w).elim c1 fun z => c2 z.1
            rw [decide_eq_false c2] at ff
            exact ⟨_, _, by simp (disch := first | omega | exact rfl) only [EV0, EV1, EV2, EV3, List.set_cons_zero, List.set_cons_succ, List.length_cons, List.length_nil, List.length_map, Nat.zero_add, List.cons_append, List.nil_append, and_self, and_true, true_and, and_false, false_and, if_true, if_false, decide_true, decide_false, decide_eq_true_eq, Bool.not_true, Bool.not_false, Bool.false_eq_true, Bool.true_eq_false, Bool.not_eq_true, eq_self, not_true_eq_false, not_false_eq_true, List.cons.injEq, Nat.reduceAdd, Nat.reduceLeDiff, Nat.reduceEqDiff, Nat.reduceSub, Nat.reduceMul, ↓reduceIte, reduceCtorEq, stp_ap, gNm_ap, seq_ap, g1, u1, it_ok, u2, f1, ff, f3, sbn, eqn1, ei, nb] <;> rfl, _, _, _, rfl, fun _ => rfl, kx⟩
      · have M1 : M = 1 := by omega
        have w0 := m1w M1
        have ei : i = n - 1 := hh.mp (.inl (by rw [M1, Nat.mod_one, Nat.mod_one]))
        have ei : decide (i = n - 1) = true := decide_eq_true ei
        generalize n - 1 = N1 at *
        rw [decide_eq_false (show ¬ w = 2 by omega)] at ff
        subst M1
        have f0 : ∀ h, kEq (.int (0 : Nat)) (.int (1 : Nat)) h = .ok (.bl false) h := fun h => rfl
        have f3 : ∀ h, kEq (.int (1 : Nat)) (.int (1 : Nat)) h = .ok (.bl true) h := fun h => rfl
        have g1 : ∀ h, kGt (.int (1 : Nat)) (.int (1 : Nat)) h = .ok (.bl false) h := fun h => rfl
        have nb : ∀ (b : Bool) h, kNe (.bl b) (.bl b) h = .ok (.bl false) h := fun b h => by cases b <;> rfl
        exact ⟨_, _, by simp (disch := first | omega | exact rfl) only [EV0, EV1, EV2, EV3, List.set_cons_zero, List.set_cons_succ, List.length_cons, List.length_nil, List.length_map, Nat.zero_add, List.cons_append, List.nil_append, and_self, and_true, true_and, and_false, false_and, if_true, if_false, decide_true, decide_false, decide_eq_true_eq, Bool.not_true, Bool.not_false, Bool.false_eq_true, Bool.true_eq_false, Bool.not_eq_true, eq_self, not_true_eq_false, not_false_eq_true, List.cons.injEq, Nat.reduceAdd, Nat.reduceLeDiff, Nat.reduceEqDiff, Nat.reduceSub, Nat.reduceMul, ↓reduceIte, reduceCtorEq, stp_ap, gNm_ap, seq_ap, g1, f0, ff, f3, sbn, eqn1, ei, nb] <;> rfl, 0, _, _, rfl, fun c => absurd c (by omega), kx⟩)
    exact ⟨_, h4, e, _, _, _, rfl, k4⟩
  rw [thn_nx]
  generalize st3 w s p = T at *
  have eT : ∀ h, kEq (.int (T : Nat)) (.int (T : Nat)) h = .ok (.bl true) h := fun h => by rw [eqn_ok, decide_eq_true rfl]
  exact ⟨_, by simp (disch := first | omega | exact rfl) only [EV0, EV1, EV2, EV3, List.set_cons_zero, List.set_cons_succ, List.length_cons, List.length_nil, List.length_map, Nat.zero_add, List.cons_append, List.nil_append, and_self, and_true, true_and, and_false, false_and, if_true, if_false, decide_true, decide_false, decide_eq_true_eq, Bool.not_true, Bool.not_false, Bool.false_eq_true, Bool.true_eq_false, Bool.not_eq_true, eq_self, not_true_eq_false, not_false_eq_true, List.cons.injEq, Nat.reduceAdd, Nat.reduceLeDiff, Nat.reduceEqDiff, Nat.reduceSub, Nat.reduceMul, ↓reduceIte, reduceCtorEq, pl1, nxt, eT] <;> rfl, k4⟩
end Lawk98

set_option Elab.async false
set_option linter.all false
set_option maxRecDepth 100000
set_option maxHeartbeats 4000000
set_option autoImplicit false
namespace Lawk98
open PySem PySem.Spec L2 Fw Pg Dk Jr
open Dv (lea tenN led3 md3 st3 tabB)
open PyProof.Rows hiding St
def LE (p : Nat × Nat) : Va := .tup ([p.1, p.2].map vN)
theorem right_ok {h : Hs} {m : Nat} (q : Mug h m) : ∃ h', G__law_right [.loc m] h = .ok (.bl true) h' ∧ Kp m h h' := by
  rw [q__law_right]
  simp only [R__law_right, runB_ap, List.map_cons, List.map_nil, List.length_cons, List.length_nil, Nat.zero_add, Nat.reduceAdd, Nat.reduceSub, List.replicate_succ, List.replicate_zero, List.cons_append, List.nil_append]
  unfold b__law_right
  obtain ⟨k, h1, e1, hk, k1⟩ := dip_ok q (top := 15) (by decide) (by decide)
  obtain ⟨w, h2, e2, w3, k2⟩ := word_ok k1
  have mu := fun h => mu_ok (a := 2) (b := k) (h := h) (by decide)
  have ad : ∀ h, kAdd (.int (2 : Nat)) (.int (2 * k : Nat)) h = .ok (.int (2 * (1 + k) : Nat)) h := fun h => by
    show Rs.ok (Va.int _) h = _
    congr 2
    omega
  have nwW : ∀ h, newL [Va.str [111, 117, 116], .str [105, 110], .str [102, 111, 108, 100]] h = .ok (.loc h.length) (h ++ [.lst Ws]) := fun h => new_ok (by decide)
  obtain ⟨h3, e3, k3⟩ := small_right_ok k2.mug w3 hk
  have k3 := k2.trans k3
  obtain ⟨g, h4, e4, gb, k4⟩ := dip_ok k3.mug (top := 2 * (1 + k)) (by omega) (by omega)
  have k4 := k3.trans k4
  have rr := fun h => row_right_ok (h := h) hk gb
  have tb := fun q (hq : q < 2 * (1 + k)) => List.all_eq_true.mp (List.all_eq_true.mp Dv.tabB_all k (List.mem_range.mpr hk)) q (List.mem_range.mpr hq)
  have M4 : 4 * k + 3 = 2 * (2 * (1 + k)) - 1 := by omega
  unfold tabB at tb
  simp only [decide_eq_true_eq] at tb
  rw [M4] at tb
  have s0 : 2 ≤ 2 * (1 + k) := by omega
  have sv : 2 * (1 + k) % 2 = 0 := by omega
  have s30 : 2 * (1 + k) ≤ 30 := by omega
  generalize 2 * (1 + k) = s at *
  generalize hW : W3 w = W at *
  (rw [Fw.seq_ap]; conv => { pattern (Fw.thn _ _); arg 1; simp (disch := first | omega | exact rfl) only [EV0, EV1, EV2, EV3, List.set_cons_zero, List.set_cons_succ, List.length_cons, List.length_nil, List.length_map, Nat.zero_add, List.cons_append, List.nil_append, and_self, and_true, true_and, and_false, false_and, if_true, if_false, decide_true, decide_false, decide_eq_true_eq, Bool.not_true, Bool.not_false, Bool.false_eq_true, Bool.true_eq_false, Bool.not_eq_true, eq_self, not_true_eq_false, not_false_eq_true, List.cons.injEq, Nat.reduceAdd, Nat.reduceLeDiff, Nat.reduceEqDiff, Nat.reduceSub, Nat.reduceMul, ↓reduceIte, reduceCtorEq, e1, mu, ad, nwW, e2] }; rw [Fw.thn_nx])
  (rw [Fw.seq_ap]; conv => { pattern (Fw.thn _ _); arg 1; simp (disch := first | omega | exact rfl) only [EV0, EV1, EV2, EV3, List.set_cons_zero, List.set_cons_succ, List.length_cons, List.length_nil, List.length_map, Nat.zero_add, List.cons_append, List.nil_append, and_self, and_true, true_and, and_false, false_and, if_true, if_false, decide_true, decide_false, decide_eq_true_eq, Bool.not_true, Bool.not_false, Bool.false_eq_true, Bool.true_eq_false, Bool.not_eq_true, eq_self, not_true_eq_false, not_false_eq_true, List.cons.injEq, Nat.reduceAdd, Nat.reduceLeDiff, Nat.reduceEqDiff, Nat.reduceSub, Nat.reduceMul, ↓reduceIte, reduceCtorEq, e3, e4, rr] }; rw [Fw.thn_nx])
  obtain ⟨p, h5, e5, pb, k5⟩ := dip_ok k4.mug (top := s) (by omega) (by omega)
  obtain ⟨r, h6, e6, rb, k6⟩ := dip_ok k5.mug (top := 12) (by decide) (by decide)
  have k6 := (k4.trans k5).trans k6
  have ad1 : ∀ h, kAdd (.int (1 : Nat)) (.int (r : Nat)) h = .ok (.int (1 + r : Nat)) h := fun h => rfl
  have m1 := fun (p : Nat) h => mu_ok (a := 2) (b := p) (h := h) (by decide)
  have s1 := fun h => sb_ok (a := 2 * s) (b := 1) (h := h) (by omega)
  have le := fun q h (hq : q < s) => lean_ok (a := 2 * q) (b := 2 * s - 1) (h := h) (by omega) (by omega) (by omega)
  have le1 := fun h => le p h pb
  generalize hT : 1 + r = T at *
  (rw [Fw.seq_ap]; conv => { pattern (Fw.thn _ _); arg 1; simp (disch := first | omega | exact rfl) only [EV0, EV1, EV2, EV3, List.set_cons_zero, List.set_cons_succ, List.length_cons, List.length_nil, List.length_map, Nat.zero_add, List.cons_append, List.nil_append, and_self, and_true, true_and, and_false, false_and, if_true, if_false, decide_true, decide_false, decide_eq_true_eq, Bool.not_true, Bool.not_false, Bool.false_eq_true, Bool.true_eq_false, Bool.not_eq_true, eq_self, not_true_eq_false, not_false_eq_true, List.cons.injEq, Nat.reduceAdd, Nat.reduceLeDiff, Nat.reduceEqDiff, Nat.reduceSub, Nat.reduceMul, ↓reduceIte, reduceCtorEq, e5, e6, ad1] }; rw [Fw.thn_nx])
  have pl : ∀ h, G_place_after [.str [102, 111, 108, 100], .int (s : Nat), .int (p : Nat), .int (T : Nat)] h = .ok (.int (led3 2 s p (2 ^ T % md3 2 s) : Nat)) h := fun h => place3 (w := 2) (by decide) s0 (by omega) sv pb (Nat.le_trans (show T ≤ 12 by omega) (by decide))
  have lt3 := fun e => Dv.led3_lt (w := 2) (x := 2 ^ e % md3 2 s) s0 pb
  have st := fun e => Dv.step3 (w := 2) (e := e) (by decide) s0 sv pb
  have z0 := Dv.led3_zero (w := 2) s0 pb
  have st : ∀ e, st3.hs3 s (led3 2 s p (2 ^ e % md3 2 s)) = led3 2 s p (2 ^ (e + 1) % md3 2 s) := st
  have rg : ∀ h, rgk1 [.int (T : Nat)] h = .ok (srcR 0 T, T) h := fun h => rgk1_ok (by omega)
  have tr : ∀ i h, G__law_tent [LE (lea (2 * led3 2 s p (2 ^ i % md3 2 s)) (2 * s - 1))] h = .ok (LE (lea (2 * led3 2 s p (2 ^ (i + 1) % md3 2 s)) (2 * s - 1))) h := fun i h => by
    obtain ⟨t1, t2, t3, t4⟩ := tb _ (lt3 i)
    have := tent_ok (h := h) t2 t3 t4
    rw [t1, st] at this
    exact this
  have le1 : ∀ h, G__law_lean [.int (2 * p : Nat), .int (2 * s - 1 : Nat)] h = .ok (LE (lea (2 * p) (2 * s - 1))) h := le1
  have leT : ∀ h, G__law_lean [.int (2 * led3 2 s p (2 ^ T % md3 2 s) : Nat), .int (2 * s - 1 : Nat)] h = .ok (LE (lea (2 * led3 2 s p (2 ^ T % md3 2 s)) (2 * s - 1))) h := fun h => le _ h (lt3 T)
  generalize md3 2 s = M at *
  have neE : ∀ (p : Nat × Nat) h, kNe (LE p) (LE p) h = .ok (.bl false) h := fun p h => by
    have := ne_tN [p.1, p.2] [p.1, p.2] h
    rw [decide_eq_true rfl] at this
    exact this
  have m1s := m1 s
  have m1p := m1 p
  generalize 2 * s - 1 = S1 at *
  generalize 2 * s = S2 at *
  (rw [Fw.seq_ap]; conv => { pattern (Fw.thn _ _); arg 1; simp (disch := first | omega | exact rfl) only [EV0, EV1, EV2, EV3, List.set_cons_zero, List.set_cons_succ, List.length_cons, List.length_nil, List.length_map, Nat.zero_add, List.cons_append, List.nil_append, and_self, and_true, true_and, and_false, false_and, if_true, if_false, decide_true, decide_false, decide_eq_true_eq, Bool.not_true, Bool.not_false, Bool.false_eq_true, Bool.true_eq_false, Bool.not_eq_true, eq_self, not_true_eq_false, not_false_eq_true, List.cons.injEq, Nat.reduceAdd, Nat.reduceLeDiff, Nat.reduceEqDiff, Nat.reduceSub, Nat.reduceMul, ↓reduceIte, reduceCtorEq, m1p, m1s, s1, le1] }; rw [Fw.thn_nx])
  (rw [Fw.seq_ap]; conv => { pattern (Fw.thn _ _); arg 1; simp (disch := first | omega | exact rfl) only [EV0, EV1, EV2, EV3, List.set_cons_zero, List.set_cons_succ, List.length_cons, List.length_nil, List.length_map, Nat.zero_add, List.cons_append, List.nil_append, and_self, and_true, true_and, and_false, false_and, if_true, if_false, decide_true, decide_false, decide_eq_true_eq, Bool.not_true, Bool.not_false, Bool.false_eq_true, Bool.true_eq_false, Bool.not_eq_true, eq_self, not_true_eq_false, not_false_eq_true, List.cons.injEq, Nat.reduceAdd, Nat.reduceLeDiff, Nat.reduceEqDiff, Nat.reduceSub, Nat.reduceMul, ↓reduceIte, reduceCtorEq, sRg1_k, rg] })
  generalize hL : loop _ _ _ _ _ _ = L
  obtain ⟨e', h7, rfl, z6, rfl, k7⟩ := loop_rg hL (fun i en hx => ∃ z6, en = [some (.loc m), some (.int (s : Nat)), some W, some (.int (p : Nat)), some (.int (T : Nat)), some (LE (lea (2 * led3 2 s p (2 ^ i % M)) S1)), z6, none] ∧ Kp m h hx)
    ⟨none, by rw [z0], k6⟩ (by
    rintro i en hx hi ⟨z6, rfl, kx⟩
    have t := tr i
    generalize LE (lea (2 * led3 2 s p (2 ^ i % M)) S1) = A at *
    generalize LE (lea (2 * led3 2 s p (2 ^ (i + 1) % M)) S1) = B at *
    exact ⟨_, _, by simp (disch := first | omega | exact rfl) only [EV0, EV1, EV2, EV3, List.set_cons_zero, List.set_cons_succ, List.length_cons, List.length_nil, List.length_map, Nat.zero_add, List.cons_append, List.nil_append, and_self, and_true, true_and, and_false, false_and, if_true, if_false, decide_true, decide_false, decide_eq_true_eq, Bool.not_true, Bool.not_false, Bool.false_eq_true, Bool.true_eq_false, Bool.not_eq_true, eq_self, not_true_eq_false, not_false_eq_true, List.cons.injEq, Nat.reduceAdd, Nat.reduceLeDiff, Nat.reduceEqDiff, Nat.reduceSub, Nat.reduceMul, ↓reduceIte, reduceCtorEq, stp_ap, gNm_ap, t] <;> rfl, _, rfl, kx⟩)
  rw [thn_nx]
  generalize led3 2 s p (2 ^ T % M) = at_ at *
  generalize lea (2 * at_) S1 = R at *
  (rw [Fw.seq_ap]; conv => { pattern (Fw.thn _ _); arg 1; simp (disch := first | omega | exact rfl) only [EV0, EV1, EV2, EV3, List.set_cons_zero, List.set_cons_succ, List.length_cons, List.length_nil, List.length_map, Nat.zero_add, List.cons_append, List.nil_append, and_self, and_true, true_and, and_false, false_and, if_true, if_false, decide_true, decide_false, decide_eq_true_eq, Bool.not_true, Bool.not_false, Bool.false_eq_true, Bool.true_eq_false, Bool.not_eq_true, eq_self, not_true_eq_false, not_false_eq_true, List.cons.injEq, Nat.reduceAdd, Nat.reduceLeDiff, Nat.reduceEqDiff, Nat.reduceSub, Nat.reduceMul, ↓reduceIte, reduceCtorEq, pl] }; rw [Fw.thn_nx])
  have m1' := m1 at_
  generalize 2 * at_ = A2 at *
  (rw [Fw.seq_ap]; conv => { pattern (Fw.thn _ _); arg 1; simp (disch := first | omega | exact rfl) only [EV0, EV1, EV2, EV3, List.set_cons_zero, List.set_cons_succ, List.length_cons, List.length_nil, List.length_map, Nat.zero_add, List.cons_append, List.nil_append, and_self, and_true, true_and, and_false, false_and, if_true, if_false, decide_true, decide_false, decide_eq_true_eq, Bool.not_true, Bool.not_false, Bool.false_eq_true, Bool.true_eq_false, Bool.not_eq_true, eq_self, not_true_eq_false, not_false_eq_true, List.cons.injEq, Nat.reduceAdd, Nat.reduceLeDiff, Nat.reduceEqDiff, Nat.reduceSub, Nat.reduceMul, ↓reduceIte, reduceCtorEq, m1', m1s, s1, leT, neE] }; rw [Fw.thn_nx])
  obtain ⟨x, h8, e8, xb, k8⟩ := dip_ok k7.mug (top := 4) (by decide) (by decide)
  by_cases c : 0 < x
  · exact ⟨_, by simp (disch := first | omega | exact rfl) only [EV0, EV1, EV2, EV3, List.set_cons_zero, List.set_cons_succ, List.length_cons, List.length_nil, List.length_map, Nat.zero_add, List.cons_append, List.nil_append, and_self, and_true, true_and, and_false, false_and, if_true, if_false, decide_true, decide_false, decide_eq_true_eq, Bool.not_true, Bool.not_false, Bool.false_eq_true, Bool.true_eq_false, Bool.not_eq_true, eq_self, not_true_eq_false, not_false_eq_true, List.cons.injEq, Nat.reduceAdd, Nat.reduceLeDiff, Nat.reduceEqDiff, Nat.reduceSub, Nat.reduceMul, ↓reduceIte, reduceCtorEq, e8, gt_ok, c] <;> rfl, k7.trans k8⟩
  · obtain ⟨h9, e9, k9⟩ := great_right_ok k8.mug
    exact ⟨_, by simp (disch := first | omega | exact rfl) only [EV0, EV1, EV2, EV3, List.set_cons_zero, List.set_cons_succ, List.length_cons, List.length_nil, List.length_map, Nat.zero_add, List.cons_append, List.nil_append, and_self, and_true, true_and, and_false, false_and, if_true, if_false, decide_true, decide_false, decide_eq_true_eq, Bool.not_true, Bool.not_false, Bool.false_eq_true, Bool.true_eq_false, Bool.not_eq_true, eq_self, not_true_eq_false, not_false_eq_true, List.cons.injEq, Nat.reduceAdd, Nat.reduceLeDiff, Nat.reduceEqDiff, Nat.reduceSub, Nat.reduceMul, ↓reduceIte, reduceCtorEq, e8, gt_ok, c, e9] <;> rfl, (k7.trans k8).trans k9⟩
end Lawk98

set_option Elab.async false
set_option linter.all false
set_option maxRecDepth 100000
set_option maxHeartbeats 4000000
set_option autoImplicit false
namespace Lawk98
open PySem PySem.Spec L2 Fw Pg Dk Jr
open PyProof.Rows hiding St
theorem law_true (ns : List Int) (l : ns.length ≤ 63) : ∃ h', R_law [.ros (ns.map Va.int)] [] = .ok (.bl true) h' := by
  show ∃ h', fin (b_law [some (.ros (ns.map Va.int)), none] []) = _
  unfold b_law
  generalize hN : max 2 (min ns.length 3) = N
  have c : ∃ h', lcl (srcR 0 N) (gNm 1) tru (sCall G__law_right 1 [0] (sCons (sCall G__law_jar 2 [0, 1] (sCons (sVar 0) (sCons (sVar 1) sNil))) sNil)) N 0 [some (.ros (ns.map Va.int)), none] [] = .ok (List.replicate N (.bl true)) h' ∧ True := by
    refine lcl_inv _ (by simp) (fun i h' => True) ?_ ?_ trivial
    · rintro i hx hi _
      obtain ⟨a, b, c, e⟩ := Jr.jar_ok (k := i) (h := hx) l
      obtain ⟨hy, f, _⟩ := right_ok (h := hx ++ [.lst [.int a, .int b, .int c]]) (m := hx.length) ⟨a, b, c, last_at _ _⟩
      refine ⟨.int (i : Nat), _, _, _, hy, .bl true, by simp [hi], rfl, rfl, ?_, by simp [hi], trivial⟩
      simp (disch := first | omega | exact rfl) only [EV0, EV1, EV2, EV3, List.set_cons_zero, List.set_cons_succ, List.length_cons, List.length_nil, List.length_map, Nat.zero_add, List.cons_append, List.nil_append, and_self, and_true, true_and, and_false, false_and, if_true, if_false, decide_true, decide_false, decide_eq_true_eq, Bool.not_true, Bool.not_false, Bool.false_eq_true, Bool.true_eq_false, Bool.not_eq_true, eq_self, not_true_eq_false, not_false_eq_true, List.cons.injEq, Nat.reduceAdd, Nat.reduceLeDiff, Nat.reduceEqDiff, Nat.reduceSub, Nat.reduceMul, ↓reduceIte, reduceCtorEq, e, f]
    · rintro hx _
      simp
  obtain ⟨h', c, _⟩ := c
  have n6 := new_ok (xs := List.replicate N (Va.bl true)) (h := h') (by simp; omega)
  have a6 := all_true (h := h' ++ [.lst (List.replicate N (.bl true))]) (last_at h' _) (fun y m => (List.mem_replicate.mp m).2)
  exact ⟨_, by simp (disch := first | omega | exact rfl) only [EV0, EV1, EV2, EV3, List.set_cons_zero, List.set_cons_succ, List.length_cons, List.length_nil, List.length_map, Nat.zero_add, List.cons_append, List.nil_append, and_self, and_true, true_and, and_false, false_and, if_true, if_false, decide_true, decide_false, decide_eq_true_eq, Bool.not_true, Bool.not_false, Bool.false_eq_true, Bool.true_eq_false, Bool.not_eq_true, eq_self, not_true_eq_false, not_false_eq_true, List.cons.injEq, Nat.reduceAdd, Nat.reduceLeDiff, Nat.reduceEqDiff, Nat.reduceSub, Nat.reduceMul, ↓reduceIte, reduceCtorEq, sRg1_k, hN, rgk1_ok, c, lst_ok, n6, a6] <;> rfl⟩
end Lawk98

set_option Elab.async false
set_option linter.all false
set_option maxRecDepth 100000
set_option maxHeartbeats 2000000
set_option autoImplicit false
namespace Lawk98
open PySem PySem.Spec L2 Fw Pg Dk Jr
open PyProof.Rows hiding St
def top (i : Nat) : Stmt := PySem.Challenge.pw_foldworld_k98_whole_decks_and_raisins.main.body.getD i (.Pass ⟨0, 0, 0, 0⟩)
abbrev st_is_within : Stmt := top 9
abbrev N_is_within : List Str := ["value", "least", "most"]
theorem sc_is_within : FnScope N_is_within ["value", "least", "most"] (defScope st_is_within) := ⟨rfl, rfl, rfl, by decide +kernel, rfl, by decide +kernel, by decide +kernel⟩
abbrev st_is_shuffle : Stmt := top 11
abbrev N_is_shuffle : List Str := ["value"]
theorem sc_is_shuffle : FnScope N_is_shuffle ["value"] (defScope st_is_shuffle) := ⟨rfl, rfl, rfl, by decide +kernel, rfl, by decide +kernel, by decide +kernel⟩
abbrev st__need_few : Stmt := top 23
abbrev N__need_few : List Str := ["size"]
theorem sc__need_few : FnScope N__need_few ["size"] (defScope st__need_few) := ⟨rfl, rfl, rfl, by decide +kernel, rfl, by decide +kernel, by decide +kernel⟩
abbrev st__modulus : Stmt := top 24
abbrev N__modulus : List Str := ["shuffle", "size"]
theorem sc__modulus : FnScope N__modulus ["shuffle", "size"] (defScope st__modulus) := ⟨rfl, rfl, rfl, by decide +kernel, rfl, by decide +kernel, by decide +kernel⟩
abbrev st__power_of_two : Stmt := top 25
abbrev N__power_of_two : List Str := ["exponent", "modulus", "found", "square", "left"]
theorem sc__power_of_two : FnScope N__power_of_two ["exponent", "modulus"] (defScope st__power_of_two) := ⟨rfl, rfl, rfl, by decide +kernel, rfl, by decide +kernel, by decide +kernel⟩
abbrev st__law_jar : Stmt := top 28
abbrev N__law_jar : List Str := ["script", "turn", "stirred", "cell", "own"]
theorem sc__law_jar : FnScope N__law_jar ["script", "turn"] (defScope st__law_jar) := ⟨rfl, rfl, rfl, by decide +kernel, rfl, by decide +kernel, by decide +kernel⟩
abbrev st__law_dip : Stmt := top 29
abbrev N__law_dip : List Str := ["jar", "many", "digit", "seed"]
theorem sc__law_dip : FnScope N__law_dip ["jar", "many"] (defScope st__law_dip) := ⟨rfl, rfl, rfl, by decide +kernel, rfl, by decide +kernel, by decide +kernel⟩
abbrev st__law_lean : Stmt := top 31
abbrev N__law_lean : List Str := ["top", "bottom", "one", "two"]
theorem sc__law_lean : FnScope N__law_lean ["top", "bottom"] (defScope st__law_lean) := ⟨rfl, rfl, rfl, by decide +kernel, rfl, by decide +kernel, by decide +kernel⟩
abbrev st__law_next : Stmt := top 33
abbrev N__law_next : List Str := ["word", "size_here", "p", "more"]
theorem sc__law_next : FnScope N__law_next ["word", "size_here", "p"] (defScope st__law_next) := ⟨rfl, rfl, rfl, by decide +kernel, rfl, by decide +kernel, by decide +kernel⟩
abbrev st__law_common : Stmt := top 35
abbrev N__law_common : List Str := ["one", "two"]
theorem sc__law_common : FnScope N__law_common ["one", "two"] (defScope st__law_common) := ⟨rfl, rfl, rfl, by decide +kernel, rfl, by decide +kernel, by decide +kernel⟩
abbrev st_need_number : Stmt := top 10
abbrev N_need_number : List Str := ["value", "least", "most"]
theorem sc_need_number : FnScope N_need_number ["value", "least", "most"] (defScope st_need_number) := ⟨rfl, rfl, rfl, by decide +kernel, rfl, by decide +kernel, by decide +kernel⟩
abbrev st_need_shuffle : Stmt := top 12
abbrev N_need_shuffle : List Str := ["value"]
theorem sc_need_shuffle : FnScope N_need_shuffle ["value"] (defScope st_need_shuffle) := ⟨rfl, rfl, rfl, by decide +kernel, rfl, by decide +kernel, by decide +kernel⟩
abbrev st_is_size : Stmt := top 13
abbrev N_is_size : List Str := ["value"]
theorem sc_is_size : FnScope N_is_size ["value"] (defScope st_is_size) := ⟨rfl, rfl, rfl, by decide +kernel, rfl, by decide +kernel, by decide +kernel⟩
abbrev st__led : Stmt := top 26
abbrev N__led : List Str := ["shuffle", "size", "place", "power", "modulus", "twice"]
theorem sc__led : FnScope N__led ["shuffle", "size", "place", "power"] (defScope st__led) := ⟨rfl, rfl, rfl, by decide +kernel, rfl, by decide +kernel, by decide +kernel⟩
abbrev st__law_pick : Stmt := top 30
abbrev N__law_pick : List Str := ["jar", "some"]
theorem sc__law_pick : FnScope N__law_pick ["jar", "some"] (defScope st__law_pick) := ⟨rfl, rfl, rfl, by decide +kernel, rfl, by decide +kernel, by decide +kernel⟩
abbrev st__law_tent : Stmt := top 32
abbrev N__law_tent : List Str := ["place"]
theorem sc__law_tent : FnScope N__law_tent ["place"] (defScope st__law_tent) := ⟨rfl, rfl, rfl, by decide +kernel, rfl, by decide +kernel, by decide +kernel⟩
abbrev st__law_loops : Stmt := top 34
abbrev N__law_loops : List Str := ["word", "size_here", "seen", "found", "p", "line", "at", "lap"]
theorem sc__law_loops : FnScope N__law_loops ["word", "size_here"] (defScope st__law_loops) := ⟨rfl, rfl, rfl, by decide +kernel, rfl, by decide +kernel, by decide +kernel⟩
abbrev st_need_size : Stmt := top 14
abbrev N_need_size : List Str := ["value"]
theorem sc_need_size : FnScope N_need_size ["value"] (defScope st_need_size) := ⟨rfl, rfl, rfl, by decide +kernel, rfl, by decide +kernel, by decide +kernel⟩
abbrev st_place_after : Stmt := top 18
abbrev N_place_after : List Str := ["shuffle", "size", "number", "times"]
theorem sc_place_after : FnScope N_place_after ["shuffle", "size", "number", "times"] (defScope st_place_after) := ⟨rfl, rfl, rfl, by decide +kernel, rfl, by decide +kernel, by decide +kernel⟩
abbrev st_order_of : Stmt := top 19
abbrev N_order_of : List Str := ["shuffle", "size", "modulus", "backs", "times", "power"]
theorem sc_order_of : FnScope N_order_of ["shuffle", "size"] (defScope st_order_of) := ⟨rfl, rfl, rfl, by decide +kernel, rfl, by decide +kernel, by decide +kernel⟩
abbrev st_deck_after : Stmt := top 20
abbrev N_deck_after : List Str := ["shuffle", "size", "times", "power", "deck", "number"]
theorem sc_deck_after : FnScope N_deck_after ["shuffle", "size", "times"] (defScope st_deck_after) := ⟨rfl, rfl, rfl, by decide +kernel, rfl, by decide +kernel, by decide +kernel⟩
abbrev st_loops : Stmt := top 21
abbrev N_loops : List Str := ["shuffle", "size", "found", "is_met", "first", "loop", "place"]
theorem sc_loops : FnScope N_loops ["shuffle", "size"] (defScope st_loops) := ⟨rfl, rfl, rfl, by decide +kernel, rfl, by decide +kernel, by decide +kernel⟩
abbrev st_row_to : Stmt := top 22
abbrev N_row_to : List Str := ["size", "number", "signs", "left"]
theorem sc_row_to : FnScope N_row_to ["size", "number"] (defScope st_row_to) := ⟨rfl, rfl, rfl, by decide +kernel, rfl, by decide +kernel, by decide +kernel⟩
abbrev st__law_small_right : Stmt := top 36
abbrev N__law_small_right : List Str := ["jar", "word", "size_here", "times_here", "due", "many", "line", "deck", "p", "at", "lap"]
theorem sc__law_small_right : FnScope N__law_small_right ["jar", "word", "size_here"] (defScope st__law_small_right) := ⟨rfl, rfl, rfl, by decide +kernel, rfl, by decide +kernel, by decide +kernel⟩
abbrev st__law_row_right : Stmt := top 37
abbrev N__law_row_right : List Str := ["size_here", "goal", "told", "front", "lap", "found", "later", "row", "p", "known"]
theorem sc__law_row_right : FnScope N__law_row_right ["size_here", "goal"] (defScope st__law_row_right) := ⟨rfl, rfl, rfl, by decide +kernel, rfl, by decide +kernel, by decide +kernel⟩
abbrev st__law_great_right : Stmt := top 38
abbrev N__law_great_right : List Str := ["jar", "size_here", "word", "many", "p", "base", "rest", "k", "hit"]
theorem sc__law_great_right : FnScope N__law_great_right ["jar"] (defScope st__law_great_right) := ⟨rfl, rfl, rfl, by decide +kernel, rfl, by decide +kernel, by decide +kernel⟩
abbrev st__law_right : Stmt := top 39
abbrev N__law_right : List Str := ["jar", "size_here", "word", "p", "times_here", "place", "lap", "at"]
theorem sc__law_right : FnScope N__law_right ["jar"] (defScope st__law_right) := ⟨rfl, rfl, rfl, by decide +kernel, rfl, by decide +kernel, by decide +kernel⟩
abbrev st_law : Stmt := top 40
abbrev N_law : List Str := ["script", "turn"]
theorem sc_law : FnScope N_law ["script"] (defScope st_law) := ⟨rfl, rfl, rfl, by decide +kernel, rfl, by decide +kernel, by decide +kernel⟩
theorem kb__law_common_2 : KwB "_law_common" st__law_common ["one", "two"] [] 2 0 [0, 1] := ⟨rfl, by decide, fun us ws h1 h2 _ _ _ _ _ _ => match us, h1, ws, h2 with | [_, _], _, [], _ => rfl⟩
theorem kb__law_dip_2 : KwB "_law_dip" st__law_dip ["jar", "many"] [] 2 0 [0, 1] := ⟨rfl, by decide, fun us ws h1 h2 _ _ _ _ _ _ => match us, h1, ws, h2 with | [_, _], _, [], _ => rfl⟩
theorem kb__law_great_right_1 : KwB "_law_great_right" st__law_great_right ["jar"] [] 1 0 [0] := ⟨rfl, by decide, fun us ws h1 h2 _ _ _ _ _ _ => match us, h1, ws, h2 with | [_], _, [], _ => rfl⟩
theorem kb__law_jar_2 : KwB "_law_jar" st__law_jar ["script", "turn"] [] 2 0 [0, 1] := ⟨rfl, by decide, fun us ws h1 h2 _ _ _ _ _ _ => match us, h1, ws, h2 with | [_, _], _, [], _ => rfl⟩
theorem kb__law_lean_2 : KwB "_law_lean" st__law_lean ["top", "bottom"] [] 2 0 [0, 1] := ⟨rfl, by decide, fun us ws h1 h2 _ _ _ _ _ _ => match us, h1, ws, h2 with | [_, _], _, [], _ => rfl⟩
theorem kb__law_loops_2 : KwB "_law_loops" st__law_loops ["word", "size_here"] [] 2 0 [0, 1] := ⟨rfl, by decide, fun us ws h1 h2 _ _ _ _ _ _ => match us, h1, ws, h2 with | [_, _], _, [], _ => rfl⟩
theorem kb__law_next_3 : KwB "_law_next" st__law_next ["word", "size_here", "p"] [] 3 0 [0, 1, 2] := ⟨rfl, by decide, fun us ws h1 h2 _ _ _ _ _ _ => match us, h1, ws, h2 with | [_, _, _], _, [], _ => rfl⟩
theorem kb__law_pick_2 : KwB "_law_pick" st__law_pick ["jar", "some"] [] 2 0 [0, 1] := ⟨rfl, by decide, fun us ws h1 h2 _ _ _ _ _ _ => match us, h1, ws, h2 with | [_, _], _, [], _ => rfl⟩
theorem kb__law_right_1 : KwB "_law_right" st__law_right ["jar"] [] 1 0 [0] := ⟨rfl, by decide, fun us ws h1 h2 _ _ _ _ _ _ => match us, h1, ws, h2 with | [_], _, [], _ => rfl⟩
theorem kb__law_row_right_2 : KwB "_law_row_right" st__law_row_right ["size_here", "goal"] [] 2 0 [0, 1] := ⟨rfl, by decide, fun us ws h1 h2 _ _ _ _ _ _ => match us, h1, ws, h2 with | [_, _], _, [], _ => rfl⟩
theorem kb__law_small_right_3 : KwB "_law_small_right" st__law_small_right ["jar", "word", "size_here"] [] 3 0 [0, 1, 2] := ⟨rfl, by decide, fun us ws h1 h2 _ _ _ _ _ _ => match us, h1, ws, h2 with | [_, _, _], _, [], _ => rfl⟩
theorem kb__law_tent_1 : KwB "_law_tent" st__law_tent ["place"] [] 1 0 [0] := ⟨rfl, by decide, fun us ws h1 h2 _ _ _ _ _ _ => match us, h1, ws, h2 with | [_], _, [], _ => rfl⟩
theorem kb__led_4 : KwB "_led" st__led ["shuffle", "size", "place", "power"] [] 4 0 [0, 1, 2, 3] := ⟨rfl, by decide, fun us ws h1 h2 _ _ _ _ _ _ => match us, h1, ws, h2 with | [_, _, _, _], _, [], _ => rfl⟩
theorem kb__modulus_2 : KwB "_modulus" st__modulus ["shuffle", "size"] [] 2 0 [0, 1] := ⟨rfl, by decide, fun us ws h1 h2 _ _ _ _ _ _ => match us, h1, ws, h2 with | [_, _], _, [], _ => rfl⟩
theorem kb__need_few_1 : KwB "_need_few" st__need_few ["size"] [] 1 0 [0] := ⟨rfl, by decide, fun us ws h1 h2 _ _ _ _ _ _ => match us, h1, ws, h2 with | [_], _, [], _ => rfl⟩
theorem kb__power_of_two_2 : KwB "_power_of_two" st__power_of_two ["exponent", "modulus"] [] 2 0 [0, 1] := ⟨rfl, by decide, fun us ws h1 h2 _ _ _ _ _ _ => match us, h1, ws, h2 with | [_, _], _, [], _ => rfl⟩
theorem kb_deck_after_3 : KwB "deck_after" st_deck_after ["shuffle", "size", "times"] [] 3 0 [0, 1, 2] := ⟨rfl, by decide, fun us ws h1 h2 _ _ _ _ _ _ => match us, h1, ws, h2 with | [_, _, _], _, [], _ => rfl⟩
theorem kb_is_shuffle_1 : KwB "is_shuffle" st_is_shuffle ["value"] [] 1 0 [0] := ⟨rfl, by decide, fun us ws h1 h2 _ _ _ _ _ _ => match us, h1, ws, h2 with | [_], _, [], _ => rfl⟩
theorem kb_is_size_1 : KwB "is_size" st_is_size ["value"] [] 1 0 [0] := ⟨rfl, by decide, fun us ws h1 h2 _ _ _ _ _ _ => match us, h1, ws, h2 with | [_], _, [], _ => rfl⟩
theorem kb_is_within_3 : KwB "is_within" st_is_within ["value", "least", "most"] [] 3 0 [0, 1, 2] := ⟨rfl, by decide, fun us ws h1 h2 _ _ _ _ _ _ => match us, h1, ws, h2 with | [_, _, _], _, [], _ => rfl⟩
theorem kb_loops_2 : KwB "loops" st_loops ["shuffle", "size"] [] 2 0 [0, 1] := ⟨rfl, by decide, fun us ws h1 h2 _ _ _ _ _ _ => match us, h1, ws, h2 with | [_, _], _, [], _ => rfl⟩
theorem kb_need_number_3 : KwB "need_number" st_need_number ["value", "least", "most"] [] 3 0 [0, 1, 2] := ⟨rfl, by decide, fun us ws h1 h2 _ _ _ _ _ _ => match us, h1, ws, h2 with | [_, _, _], _, [], _ => rfl⟩
theorem kb_need_shuffle_1 : KwB "need_shuffle" st_need_shuffle ["value"] [] 1 0 [0] := ⟨rfl, by decide, fun us ws h1 h2 _ _ _ _ _ _ => match us, h1, ws, h2 with | [_], _, [], _ => rfl⟩
theorem kb_need_size_1 : KwB "need_size" st_need_size ["value"] [] 1 0 [0] := ⟨rfl, by decide, fun us ws h1 h2 _ _ _ _ _ _ => match us, h1, ws, h2 with | [_], _, [], _ => rfl⟩
theorem kb_order_of_2 : KwB "order_of" st_order_of ["shuffle", "size"] [] 2 0 [0, 1] := ⟨rfl, by decide, fun us ws h1 h2 _ _ _ _ _ _ => match us, h1, ws, h2 with | [_, _], _, [], _ => rfl⟩
theorem kb_place_after_4 : KwB "place_after" st_place_after ["shuffle", "size", "number", "times"] [] 4 0 [0, 1, 2, 3] := ⟨rfl, by decide, fun us ws h1 h2 _ _ _ _ _ _ => match us, h1, ws, h2 with | [_, _, _, _], _, [], _ => rfl⟩
theorem kb_row_to_2 : KwB "row_to" st_row_to ["size", "number"] [] 2 0 [0, 1] := ⟨rfl, by decide, fun us ws h1 h2 _ _ _ _ _ _ => match us, h1, ws, h2 with | [_, _], _, [], _ => rfl⟩
structure Glob (K : PySem.W.Frag) (mg : Str → Option Value) : Prop where
  n_abs : mg "abs" = none
  n_all : mg "all" = none
  n_divmod : mg "divmod" = none
  n_int : mg "int" = none
  n_len : mg "len" = none
  n_max : mg "max" = none
  n_min : mg "min" = none
  n_range : mg "range" = none
  n_sorted : mg "sorted" = none
  n_str : mg "str" = none
  n_tuple : mg "tuple" = none
  n_type : mg "type" = none
  c_MOST_DECK : ∃ t, mg "MOST_DECK" = some (.int 1000000 t)
  c__MOST_LISTED : ∃ t, mg "_MOST_LISTED" = some (.int 1000 t)
  c__MOST_TIMES : ∃ t, mg "_MOST_TIMES" = some (.int 1000000000000000000000000000000 t)
  t__SHUFFLES : ∃ a, mg "_SHUFFLES" = some (.ref a) ∧ ∀ H, SqT K H a [V.str ⟨#[111, 117, 116]⟩, V.str ⟨#[105, 110]⟩, V.str ⟨#[102, 111, 108, 100]⟩]
section
variable {P : Program} {w : World} {K : PySem.W.Frag} {mg : Str → Option Value} {base : Heap}
set_option maxHeartbeats 8000000 in
theorem d_is_within (T : Glob K mg)  {f : Addr} {kV doc pm cdv ct oc : Value} {an od : Option Addr} {osl : Array (Option Value)}
    (lk : K.lookup f = some ⟨oc, od, .func (PySem.W.fnOf "is_within" "is_within" (defArgs st_is_within) (defBody st_is_within) (defScope st_is_within) .none kV doc pm an cdv ct), osl⟩) (hcd : PySem.W.codeIn K cdv "is_within" = true) :
    DefOk P w ⟨K, mg⟩ base 1 f (PySem.W.fnOf "is_within" "is_within" (defArgs st_is_within) (defBody st_is_within) (defScope st_is_within) .none kV doc pm an cdv ct) ["value", "least", "most"] R_is_within := by
  refine defOk_of (N := N_is_within) lk hcd sc_is_within fun A outer s H E hr hg => ?_
  have hu := hr.units
  have hu5 := units5 hr
  have nd : (N_is_within).Nodup := sc_is_within.nd
  have tk := @takes_of (bodyX P w K mg base N_is_within "is_within" (defScope st_is_within) f cdv A outer s H E) E rfl rfl rfl _ rfl
  have hpass : PassesOwn _ _ _ _ := @passes_of (bodyX P w K mg base N_is_within "is_within" (defScope st_is_within) f cdv A outer s H E) _ _ rfl
  exact (ss_one (sp_ret (se_and (se_com ks_is (se_bty cs_typ (by rfl) T.n_type (sa_cons (se_var 0) sa_nil)) (se_ty (by rfl) T.n_int)) (se_one (se_chn ks_le ks_le (se_var 1) (se_var 0) (se_var 2))))))
set_option maxHeartbeats 8000000 in
theorem d_is_shuffle (T : Glob K mg)  {f : Addr} {kV doc pm cdv ct oc : Value} {an od : Option Addr} {osl : Array (Option Value)}
    (lk : K.lookup f = some ⟨oc, od, .func (PySem.W.fnOf "is_shuffle" "is_shuffle" (defArgs st_is_shuffle) (defBody st_is_shuffle) (defScope st_is_shuffle) .none kV doc pm an cdv ct), osl⟩) (hcd : PySem.W.codeIn K cdv "is_shuffle" = true) :
    DefOk P w ⟨K, mg⟩ base 1 f (PySem.W.fnOf "is_shuffle" "is_shuffle" (defArgs st_is_shuffle) (defBody st_is_shuffle) (defScope st_is_shuffle) .none kV doc pm an cdv ct) ["value"] R_is_shuffle := by
  refine defOk_of (N := N_is_shuffle) lk hcd sc_is_shuffle fun A outer s H E hr hg => ?_
  have hu := hr.units
  have hu5 := units5 hr
  have nd : (N_is_shuffle).Nodup := sc_is_shuffle.nd
  have tk := @takes_of (bodyX P w K mg base N_is_shuffle "is_shuffle" (defScope st_is_shuffle) f cdv A outer s H E) E rfl rfl rfl _ rfl
  have hpass : PassesOwn _ _ _ _ := @passes_of (bodyX P w K mg base N_is_shuffle "is_shuffle" (defScope st_is_shuffle) f cdv A outer s H E) _ _ rfl
  exact (ss_one (sp_ret (se_and (se_com ks_is (se_bty cs_typ (by rfl) T.n_type (sa_cons (se_var 0) sa_nil)) (se_ty (by rfl) T.n_str)) (se_one (se_com (ks_in hu hu5) (se_var 0) (se_gtupE (by rfl) T.t__SHUFFLES (fun _ _ _ => rp_strs [[111, 117, 116], [105, 110], [102, 111, 108, 100]])))))))
set_option maxHeartbeats 8000000 in
theorem d__need_few (T : Glob K mg)  {f : Addr} {kV doc pm cdv ct oc : Value} {an od : Option Addr} {osl : Array (Option Value)}
    (lk : K.lookup f = some ⟨oc, od, .func (PySem.W.fnOf "_need_few" "_need_few" (defArgs st__need_few) (defBody st__need_few) (defScope st__need_few) .none kV doc pm an cdv ct), osl⟩) (hcd : PySem.W.codeIn K cdv "_need_few" = true) :
    DefOk P w ⟨K, mg⟩ base 1 f (PySem.W.fnOf "_need_few" "_need_few" (defArgs st__need_few) (defBody st__need_few) (defScope st__need_few) .none kV doc pm an cdv ct) ["size"] R__need_few := by
  refine defOk_of (N := N__need_few) lk hcd sc__need_few fun A outer s H E hr hg => ?_
  have hu := hr.units
  have hu5 := units5 hr
  have nd : (N__need_few).Nodup := sc__need_few.nd
  have tk := @takes_of (bodyX P w K mg base N__need_few "_need_few" (defScope st__need_few) f cdv A outer s H E) E rfl rfl rfl _ rfl
  have hpass : PassesOwn _ _ _ _ := @passes_of (bodyX P w K mg base N__need_few "_need_few" (defScope st__need_few) f cdv A outer s H E) _ _ rfl
  exact (ss_one (sp_if (st_com ks_gt (se_var 0) (se_gintE (by rfl) T.c__MOST_LISTED))
  (ss_one sp_never)
  ss_nil))
set_option maxHeartbeats 8000000 in
theorem d__modulus (T : Glob K mg)  {f : Addr} {kV doc pm cdv ct oc : Value} {an od : Option Addr} {osl : Array (Option Value)}
    (lk : K.lookup f = some ⟨oc, od, .func (PySem.W.fnOf "_modulus" "_modulus" (defArgs st__modulus) (defBody st__modulus) (defScope st__modulus) .none kV doc pm an cdv ct), osl⟩) (hcd : PySem.W.codeIn K cdv "_modulus" = true) :
    DefOk P w ⟨K, mg⟩ base 1 f (PySem.W.fnOf "_modulus" "_modulus" (defArgs st__modulus) (defBody st__modulus) (defScope st__modulus) .none kV doc pm an cdv ct) ["shuffle", "size"] R__modulus := by
  refine defOk_of (N := N__modulus) lk hcd sc__modulus fun A outer s H E hr hg => ?_
  have hu := hr.units
  have hu5 := units5 hr
  have nd : (N__modulus).Nodup := sc__modulus.nd
  have tk := @takes_of (bodyX P w K mg base N__modulus "_modulus" (defScope st__modulus) f cdv A outer s H E) E rfl rfl rfl _ rfl
  have hpass : PassesOwn _ _ _ _ := @passes_of (bodyX P w K mg base N__modulus "_modulus" (defScope st__modulus) f cdv A outer s H E) _ _ rfl
  exact (ss_cons (sp_if (st_com (ks_eq hu) (se_var 0) (se_str [111, 117, 116]))
  (ss_one (sp_ret (se_bin ks_sub (se_var 1) se_int)))
  ss_nil)
  (ss_one (sp_ret (se_ite (st_com (ks_eq hu) (se_var 0) (se_str [105, 110])) (se_bin ks_add (se_var 1) se_int) (se_bin ks_sub (se_bin ks_mul se_int (se_var 1)) se_int)))))
set_option maxHeartbeats 8000000 in
theorem d__power_of_two (T : Glob K mg)  {f : Addr} {kV doc pm cdv ct oc : Value} {an od : Option Addr} {osl : Array (Option Value)}
    (lk : K.lookup f = some ⟨oc, od, .func (PySem.W.fnOf "_power_of_two" "_power_of_two" (defArgs st__power_of_two) (defBody st__power_of_two) (defScope st__power_of_two) .none kV doc pm an cdv ct), osl⟩) (hcd : PySem.W.codeIn K cdv "_power_of_two" = true) :
    DefOk P w ⟨K, mg⟩ base 1 f (PySem.W.fnOf "_power_of_two" "_power_of_two" (defArgs st__power_of_two) (defBody st__power_of_two) (defScope st__power_of_two) .none kV doc pm an cdv ct) ["exponent", "modulus"] R__power_of_two := by
  refine defOk_of (N := N__power_of_two) lk hcd sc__power_of_two fun A outer s H E hr hg => ?_
  have hu := hr.units
  have hu5 := units5 hr
  have nd : (N__power_of_two).Nodup := sc__power_of_two.nd
  have tk := @takes_of (bodyX P w K mg base N__power_of_two "_power_of_two" (defScope st__power_of_two) f cdv A outer s H E) E rfl rfl rfl _ rfl
  have hpass : PassesOwn _ _ _ _ := @passes_of (bodyX P w K mg base N__power_of_two "_power_of_two" (defScope st__power_of_two) f cdv A outer s H E) _ _ rfl
  exact (ss_cons (sp_set 2 nd (se_bin ks_mod se_int (se_var 1)))
  (ss_cons (sp_set 3 nd (se_bin ks_mod se_int (se_var 1)))
  (ss_cons (sp_set 4 nd (se_var 0))
  (ss_cons (sp_while 1000 hpass (st_com ks_gt (se_var 4) se_int)
  (ss_cons (sp_if (st_com (ks_eq hu) (se_bin ks_mod (se_var 4) se_int) se_int)
  (ss_one (sp_set 2 nd (se_bin ks_mod (se_bin ks_mul (se_var 2) (se_var 3)) (se_var 1))))
  ss_nil)
  (ss_cons (sp_set 3 nd (se_bin ks_mod (se_bin ks_mul (se_var 3) (se_var 3)) (se_var 1)))
  (ss_one (sp_set 4 nd (se_bin ks_fdv (se_var 4) se_int))))))
  (ss_one (sp_ret (se_var 2)))))))
set_option maxHeartbeats 8000000 in
theorem d__law_jar (T : Glob K mg)  {f : Addr} {kV doc pm cdv ct oc : Value} {an od : Option Addr} {osl : Array (Option Value)}
    (lk : K.lookup f = some ⟨oc, od, .func (PySem.W.fnOf "_law_jar" "_law_jar" (defArgs st__law_jar) (defBody st__law_jar) (defScope st__law_jar) .none kV doc pm an cdv ct), osl⟩) (hcd : PySem.W.codeIn K cdv "_law_jar" = true) :
    DefOk P w ⟨K, mg⟩ base 1 f (PySem.W.fnOf "_law_jar" "_law_jar" (defArgs st__law_jar) (defBody st__law_jar) (defScope st__law_jar) .none kV doc pm an cdv ct) ["script", "turn"] R__law_jar := by
  refine defOk_of (N := N__law_jar) lk hcd sc__law_jar fun A outer s H E hr hg => ?_
  have hu := hr.units
  have hu5 := units5 hr
  have nd : (N__law_jar).Nodup := sc__law_jar.nd
  have tk := @takes_of (bodyX P w K mg base N__law_jar "_law_jar" (defScope st__law_jar) f cdv A outer s H E) E rfl rfl rfl _ rfl
  have hpass : PassesOwn _ _ _ _ := @passes_of (bodyX P w K mg base N__law_jar "_law_jar" (defScope st__law_jar) f cdv A outer s H E) _ _ rfl
  exact (ss_cons (sp_set 2 nd (se_bin ks_add se_int (se_bin ks_mul se_int (se_var 1))))
  (ss_cons (sp_for hpass rfl (si_any (se_sl (se_var 0) so_none (so_some se_int))) (sg_name 3 nd)
  (ss_one (sp_set 2 nd (se_bin ks_mod (se_bty cs_int (by rfl) T.n_int (sa_cons (se_bin ks_add (se_bin ks_add (se_bin ks_mul (se_var 2) se_int) (se_bty cs_int (by rfl) T.n_int (sa_cons (se_var 3) sa_nil))) se_int) sa_nil)) se_int))))
  (ss_cons (sp_set 4 nd (se_ite (st_com ks_lt (se_var 1) (se_blt cs_len (by rfl) T.n_len (sa_cons (se_var 0) sa_nil))) (se_bty cs_int (by rfl) T.n_int (sa_cons (se_ix (se_var 0) (se_var 1)) sa_nil)) (se_bin ks_add (se_bin ks_mul se_int (se_var 1)) se_int)))
  (ss_one (sp_ret (se_lst (sa_cons (se_ite (PW.pt (sw_or (st_com ks_lt (se_var 4) se_int) (sw_or1 (st_com ks_ge (se_var 4) (se_bin ks_pow se_int se_int))))) (se_blt cs_abs (by rfl) T.n_abs (sa_cons (se_var 4) sa_nil)) se_int) (sa_cons (se_bin ks_mod (se_bty cs_int (by rfl) T.n_int (sa_cons (se_bin ks_add (se_var 2) (se_bin ks_mul se_int (se_var 4))) sa_nil)) se_int) (sa_cons se_int sa_nil)))))))))
set_option maxHeartbeats 8000000 in
theorem d__law_dip (T : Glob K mg)  {f : Addr} {kV doc pm cdv ct oc : Value} {an od : Option Addr} {osl : Array (Option Value)}
    (lk : K.lookup f = some ⟨oc, od, .func (PySem.W.fnOf "_law_dip" "_law_dip" (defArgs st__law_dip) (defBody st__law_dip) (defScope st__law_dip) .none kV doc pm an cdv ct), osl⟩) (hcd : PySem.W.codeIn K cdv "_law_dip" = true) :
    DefOk P w ⟨K, mg⟩ base 1 f (PySem.W.fnOf "_law_dip" "_law_dip" (defArgs st__law_dip) (defBody st__law_dip) (defScope st__law_dip) .none kV doc pm an cdv ct) ["jar", "many"] R__law_dip := by
  refine defOk_of (N := N__law_dip) lk hcd sc__law_dip fun A outer s H E hr hg => ?_
  have hu := hr.units
  have hu5 := units5 hr
  have nd : (N__law_dip).Nodup := sc__law_dip.nd
  have tk := @takes_of (bodyX P w K mg base N__law_dip "_law_dip" (defScope st__law_dip) f cdv A outer s H E) E rfl rfl rfl _ rfl
  have hpass : PassesOwn _ _ _ _ := @passes_of (bodyX P w K mg base N__law_dip "_law_dip" (defScope st__law_dip) f cdv A outer s H E) _ _ rfl
  exact (ss_cons (sp_asg (se_bin ks_add (se_ix (se_var 0) se_int) se_int) (sg_sub (se_var 0) se_int))
  (ss_cons (sp_if (st_com ks_gt (se_ix (se_var 0) se_int) se_int)
  (ss_cons (sp_asg (se_blt cs_dvm (by rfl) T.n_divmod (sa_cons (se_ix (se_var 0) se_int) (sa_cons (se_var 1) sa_nil))) (sg_tup rfl (sgs_cons (sg_sub (se_var 0) se_int) (sgs_cons (sg_name 2 nd) sgs_nil))))
  (ss_one (sp_ret (se_var 2))))
  ss_nil)
  (ss_cons (sp_set 3 nd (se_ix (se_var 0) se_int))
  (ss_cons (sp_asg (se_bin ks_mod (se_bty cs_int (by rfl) T.n_int (sa_cons (se_bin ks_add (se_bin ks_add (se_bin ks_mul (se_bty cs_int (by rfl) T.n_int (sa_cons (se_var 3) sa_nil)) se_int) (se_bin ks_mul se_int (se_ix (se_var 0) se_int))) se_int) sa_nil)) se_int) (sg_sub (se_var 0) se_int))
  (ss_one (sp_ret (se_bin ks_mod (se_bty cs_int (by rfl) T.n_int (sa_cons (se_bin ks_fdv (se_ix (se_var 0) se_int) se_int) sa_nil)) (se_var 1))))))))
set_option maxHeartbeats 8000000 in
theorem d__law_lean (T : Glob K mg)  {f : Addr} {kV doc pm cdv ct oc : Value} {an od : Option Addr} {osl : Array (Option Value)}
    (lk : K.lookup f = some ⟨oc, od, .func (PySem.W.fnOf "_law_lean" "_law_lean" (defArgs st__law_lean) (defBody st__law_lean) (defScope st__law_lean) .none kV doc pm an cdv ct), osl⟩) (hcd : PySem.W.codeIn K cdv "_law_lean" = true) :
    DefOk P w ⟨K, mg⟩ base 1 f (PySem.W.fnOf "_law_lean" "_law_lean" (defArgs st__law_lean) (defBody st__law_lean) (defScope st__law_lean) .none kV doc pm an cdv ct) ["top", "bottom"] R__law_lean := by
  refine defOk_of (N := N__law_lean) lk hcd sc__law_lean fun A outer s H E hr hg => ?_
  have hu := hr.units
  have hu5 := units5 hr
  have nd : (N__law_lean).Nodup := sc__law_lean.nd
  have tk := @takes_of (bodyX P w K mg base N__law_lean "_law_lean" (defScope st__law_lean) f cdv A outer s H E) E rfl rfl rfl _ rfl
  have hpass : PassesOwn _ _ _ _ := @passes_of (bodyX P w K mg base N__law_lean "_law_lean" (defScope st__law_lean) f cdv A outer s H E) _ _ rfl
  exact (ss_cons (sp_par (i := 2) (j := 3) rfl nd (sa_cons (se_blt cs_abs (by rfl) T.n_abs (sa_cons (se_var 0) sa_nil)) (sa_cons (se_var 1) sa_nil)))
  (ss_cons (sp_while 1000 hpass (st_com ks_gt (se_var 3) se_int)
  (ss_one (sp_par (i := 2) (j := 3) rfl nd (sa_cons (se_var 3) (sa_cons (se_bin ks_mod (se_bty cs_int (by rfl) T.n_int (sa_cons (se_var 2) sa_nil)) (se_var 3)) sa_nil)))))
  (ss_one (sp_ret (se_tup (sa_cons (se_bin ks_fdv (se_var 0) (se_var 2)) (sa_cons (se_bin ks_fdv (se_var 1) (se_var 2)) sa_nil)))))))
set_option maxHeartbeats 8000000 in
theorem d__law_next (T : Glob K mg)  {f : Addr} {kV doc pm cdv ct oc : Value} {an od : Option Addr} {osl : Array (Option Value)}
    (lk : K.lookup f = some ⟨oc, od, .func (PySem.W.fnOf "_law_next" "_law_next" (defArgs st__law_next) (defBody st__law_next) (defScope st__law_next) .none kV doc pm an cdv ct), osl⟩) (hcd : PySem.W.codeIn K cdv "_law_next" = true) :
    DefOk P w ⟨K, mg⟩ base 1 f (PySem.W.fnOf "_law_next" "_law_next" (defArgs st__law_next) (defBody st__law_next) (defScope st__law_next) .none kV doc pm an cdv ct) ["word", "size_here", "p"] R__law_next := by
  refine defOk_of (N := N__law_next) lk hcd sc__law_next fun A outer s H E hr hg => ?_
  have hu := hr.units
  have hu5 := units5 hr
  have nd : (N__law_next).Nodup := sc__law_next.nd
  have tk := @takes_of (bodyX P w K mg base N__law_next "_law_next" (defScope st__law_next) f cdv A outer s H E) E rfl rfl rfl _ rfl
  have hpass : PassesOwn _ _ _ _ := @passes_of (bodyX P w K mg base N__law_next "_law_next" (defScope st__law_next) f cdv A outer s H E) _ _ rfl
  exact (ss_cons (sp_if (st_com (ks_eq hu) (se_var 0) (se_str [102, 111, 108, 100]))
  (ss_one (sp_ret (se_ite (st_com ks_lt (se_bin ks_mul se_int (se_var 2)) (se_var 1)) (se_bin ks_mul se_int (se_var 2)) (se_bin ks_sub (se_bin ks_sub (se_bin ks_mul se_int (se_var 1)) se_int) (se_bin ks_mul se_int (se_var 2))))))
  ss_nil)
  (ss_cons (sp_set 3 nd (se_ite (st_com (ks_eq hu) (se_var 0) (se_str [111, 117, 116])) se_int se_int))
  (ss_one (sp_ret (se_ite (st_com ks_lt (se_bin ks_mul se_int (se_var 2)) (se_var 1)) (se_bin ks_add (se_bin ks_mul se_int (se_var 2)) (se_var 3)) (se_bin ks_sub (se_bin ks_add (se_bin ks_sub (se_bin ks_mul se_int (se_var 2)) (se_var 1)) se_int) (se_var 3)))))))
set_option maxHeartbeats 8000000 in
theorem d__law_common (T : Glob K mg)  {f : Addr} {kV doc pm cdv ct oc : Value} {an od : Option Addr} {osl : Array (Option Value)}
    (lk : K.lookup f = some ⟨oc, od, .func (PySem.W.fnOf "_law_common" "_law_common" (defArgs st__law_common) (defBody st__law_common) (defScope st__law_common) .none kV doc pm an cdv ct), osl⟩) (hcd : PySem.W.codeIn K cdv "_law_common" = true) :
    DefOk P w ⟨K, mg⟩ base 1 f (PySem.W.fnOf "_law_common" "_law_common" (defArgs st__law_common) (defBody st__law_common) (defScope st__law_common) .none kV doc pm an cdv ct) ["one", "two"] R__law_common := by
  refine defOk_of (N := N__law_common) lk hcd sc__law_common fun A outer s H E hr hg => ?_
  have hu := hr.units
  have hu5 := units5 hr
  have nd : (N__law_common).Nodup := sc__law_common.nd
  have tk := @takes_of (bodyX P w K mg base N__law_common "_law_common" (defScope st__law_common) f cdv A outer s H E) E rfl rfl rfl _ rfl
  have hpass : PassesOwn _ _ _ _ := @passes_of (bodyX P w K mg base N__law_common "_law_common" (defScope st__law_common) f cdv A outer s H E) _ _ rfl
  exact (ss_cons (sp_while 1000 hpass (st_com ks_gt (se_var 1) se_int)
  (ss_one (sp_par (i := 0) (j := 1) rfl nd (sa_cons (se_var 1) (sa_cons (se_bin ks_mod (se_bty cs_int (by rfl) T.n_int (sa_cons (se_var 0) sa_nil)) (se_var 1)) sa_nil)))))
  (ss_one (sp_ret (se_var 0))))
set_option maxHeartbeats 8000000 in
theorem d_need_number (T : Glob K mg) (GG_is_within : Gfn P w ⟨K, mg⟩ base 1 "is_within" st_is_within ["value", "least", "most"] G_is_within) {f : Addr} {kV doc pm cdv ct oc : Value} {an od : Option Addr} {osl : Array (Option Value)}
    (lk : K.lookup f = some ⟨oc, od, .func (PySem.W.fnOf "need_number" "need_number" (defArgs st_need_number) (defBody st_need_number) (defScope st_need_number) .none kV doc pm an cdv ct), osl⟩) (hcd : PySem.W.codeIn K cdv "need_number" = true) :
    DefOk P w ⟨K, mg⟩ base 2 f (PySem.W.fnOf "need_number" "need_number" (defArgs st_need_number) (defBody st_need_number) (defScope st_need_number) .none kV doc pm an cdv ct) ["value", "least", "most"] R_need_number := by
  refine defOk_of (N := N_need_number) lk hcd sc_need_number fun A outer s H E hr hg => ?_
  have hu := hr.units
  have hu5 := units5 hr
  have nd : (N_need_number).Nodup := sc_need_number.nd
  have tk := @takes_of (bodyX P w K mg base N_need_number "need_number" (defScope st_need_number) f cdv A outer s H E) E rfl rfl rfl _ rfl
  have hpass : PassesOwn _ _ _ _ := @passes_of (bodyX P w K mg base N_need_number "need_number" (defScope st_need_number) f cdv A outer s H E) _ _ rfl
  exact (ss_one (sp_if (st_not (st_tru (se_call 3 GG_is_within hr (by decide) hg tk (by rfl) kb_is_within_3 (sa_cons (se_var 0) (sa_cons (se_var 1) (sa_cons (se_var 2) sa_nil))))))
  (ss_one sp_never)
  ss_nil))
set_option maxHeartbeats 8000000 in
theorem d_need_shuffle (T : Glob K mg) (GG_is_shuffle : Gfn P w ⟨K, mg⟩ base 1 "is_shuffle" st_is_shuffle ["value"] G_is_shuffle) {f : Addr} {kV doc pm cdv ct oc : Value} {an od : Option Addr} {osl : Array (Option Value)}
    (lk : K.lookup f = some ⟨oc, od, .func (PySem.W.fnOf "need_shuffle" "need_shuffle" (defArgs st_need_shuffle) (defBody st_need_shuffle) (defScope st_need_shuffle) .none kV doc pm an cdv ct), osl⟩) (hcd : PySem.W.codeIn K cdv "need_shuffle" = true) :
    DefOk P w ⟨K, mg⟩ base 2 f (PySem.W.fnOf "need_shuffle" "need_shuffle" (defArgs st_need_shuffle) (defBody st_need_shuffle) (defScope st_need_shuffle) .none kV doc pm an cdv ct) ["value"] R_need_shuffle := by
  refine defOk_of (N := N_need_shuffle) lk hcd sc_need_shuffle fun A outer s H E hr hg => ?_
  have hu := hr.units
  have hu5 := units5 hr
  have nd : (N_need_shuffle).Nodup := sc_need_shuffle.nd
  have tk := @takes_of (bodyX P w K mg base N_need_shuffle "need_shuffle" (defScope st_need_shuffle) f cdv A outer s H E) E rfl rfl rfl _ rfl
  have hpass : PassesOwn _ _ _ _ := @passes_of (bodyX P w K mg base N_need_shuffle "need_shuffle" (defScope st_need_shuffle) f cdv A outer s H E) _ _ rfl
  exact (ss_one (sp_if (st_not (st_tru (se_call 1 GG_is_shuffle hr (by decide) hg tk (by rfl) kb_is_shuffle_1 (sa_cons (se_var 0) sa_nil))))
  (ss_one sp_never)
  ss_nil))
set_option maxHeartbeats 8000000 in
theorem d_is_size (T : Glob K mg) (GG_is_within : Gfn P w ⟨K, mg⟩ base 1 "is_within" st_is_within ["value", "least", "most"] G_is_within) {f : Addr} {kV doc pm cdv ct oc : Value} {an od : Option Addr} {osl : Array (Option Value)}
    (lk : K.lookup f = some ⟨oc, od, .func (PySem.W.fnOf "is_size" "is_size" (defArgs st_is_size) (defBody st_is_size) (defScope st_is_size) .none kV doc pm an cdv ct), osl⟩) (hcd : PySem.W.codeIn K cdv "is_size" = true) :
    DefOk P w ⟨K, mg⟩ base 2 f (PySem.W.fnOf "is_size" "is_size" (defArgs st_is_size) (defBody st_is_size) (defScope st_is_size) .none kV doc pm an cdv ct) ["value"] R_is_size := by
  refine defOk_of (N := N_is_size) lk hcd sc_is_size fun A outer s H E hr hg => ?_
  have hu := hr.units
  have hu5 := units5 hr
  have nd : (N_is_size).Nodup := sc_is_size.nd
  have tk := @takes_of (bodyX P w K mg base N_is_size "is_size" (defScope st_is_size) f cdv A outer s H E) E rfl rfl rfl _ rfl
  have hpass : PassesOwn _ _ _ _ := @passes_of (bodyX P w K mg base N_is_size "is_size" (defScope st_is_size) f cdv A outer s H E) _ _ rfl
  exact (ss_one (sp_ret (se_and (se_call 3 GG_is_within hr (by decide) hg tk (by rfl) kb_is_within_3 (sa_cons (se_var 0) (sa_cons se_int (sa_cons (se_gintE (by rfl) T.c_MOST_DECK) sa_nil)))) (se_one (se_com (ks_eq hu) (se_bin ks_mod (se_var 0) se_int) se_int)))))
set_option maxHeartbeats 8000000 in
theorem d__led (T : Glob K mg) (GG__modulus : Gfn P w ⟨K, mg⟩ base 1 "_modulus" st__modulus ["shuffle", "size"] G__modulus) {f : Addr} {kV doc pm cdv ct oc : Value} {an od : Option Addr} {osl : Array (Option Value)}
    (lk : K.lookup f = some ⟨oc, od, .func (PySem.W.fnOf "_led" "_led" (defArgs st__led) (defBody st__led) (defScope st__led) .none kV doc pm an cdv ct), osl⟩) (hcd : PySem.W.codeIn K cdv "_led" = true) :
    DefOk P w ⟨K, mg⟩ base 2 f (PySem.W.fnOf "_led" "_led" (defArgs st__led) (defBody st__led) (defScope st__led) .none kV doc pm an cdv ct) ["shuffle", "size", "place", "power"] R__led := by
  refine defOk_of (N := N__led) lk hcd sc__led fun A outer s H E hr hg => ?_
  have hu := hr.units
  have hu5 := units5 hr
  have nd : (N__led).Nodup := sc__led.nd
  have tk := @takes_of (bodyX P w K mg base N__led "_led" (defScope st__led) f cdv A outer s H E) E rfl rfl rfl _ rfl
  have hpass : PassesOwn _ _ _ _ := @passes_of (bodyX P w K mg base N__led "_led" (defScope st__led) f cdv A outer s H E) _ _ rfl
  exact (ss_cons (sp_set 4 nd (se_call 2 GG__modulus hr (by decide) hg tk (by rfl) kb__modulus_2 (sa_cons (se_var 0) (sa_cons (se_var 1) sa_nil))))
  (ss_cons (sp_if (st_com (ks_eq hu) (se_var 0) (se_str [111, 117, 116]))
  (ss_one (sp_ret (se_ite (st_com (ks_eq hu) (se_var 2) (se_bin ks_sub (se_var 1) se_int)) (se_var 2) (se_bin ks_mod (se_bin ks_mul (se_var 2) (se_var 3)) (se_var 4)))))
  ss_nil)
  (ss_cons (sp_if (st_com (ks_eq hu) (se_var 0) (se_str [105, 110]))
  (ss_one (sp_ret (se_bin ks_sub (se_bin ks_mod (se_bin ks_mul (se_bin ks_add (se_var 2) se_int) (se_var 3)) (se_var 4)) se_int)))
  ss_nil)
  (ss_cons (sp_set 5 nd (se_bin ks_mod (se_bin ks_mul (se_bin ks_mul se_int (se_var 2)) (se_var 3)) (se_var 4)))
  (ss_one (sp_ret (se_ite (st_com (ks_eq hu) (se_bin ks_mod (se_var 5) se_int) se_int) (se_bin ks_fdv (se_var 5) se_int) (se_bin ks_fdv (se_bin ks_sub (se_var 4) (se_var 5)) se_int))))))))
set_option maxHeartbeats 8000000 in
theorem d__law_pick (T : Glob K mg) (GG__law_dip : Gfn P w ⟨K, mg⟩ base 1 "_law_dip" st__law_dip ["jar", "many"] G__law_dip) {f : Addr} {kV doc pm cdv ct oc : Value} {an od : Option Addr} {osl : Array (Option Value)}
    (lk : K.lookup f = some ⟨oc, od, .func (PySem.W.fnOf "_law_pick" "_law_pick" (defArgs st__law_pick) (defBody st__law_pick) (defScope st__law_pick) .none kV doc pm an cdv ct), osl⟩) (hcd : PySem.W.codeIn K cdv "_law_pick" = true) :
    DefOk P w ⟨K, mg⟩ base 2 f (PySem.W.fnOf "_law_pick" "_law_pick" (defArgs st__law_pick) (defBody st__law_pick) (defScope st__law_pick) .none kV doc pm an cdv ct) ["jar", "some"] R__law_pick := by
  refine defOk_of (N := N__law_pick) lk hcd sc__law_pick fun A outer s H E hr hg => ?_
  have hu := hr.units
  have hu5 := units5 hr
  have nd : (N__law_pick).Nodup := sc__law_pick.nd
  have tk := @takes_of (bodyX P w K mg base N__law_pick "_law_pick" (defScope st__law_pick) f cdv A outer s H E) E rfl rfl rfl _ rfl
  have hpass : PassesOwn _ _ _ _ := @passes_of (bodyX P w K mg base N__law_pick "_law_pick" (defScope st__law_pick) f cdv A outer s H E) _ _ rfl
  exact (ss_one (sp_ret (se_ix (se_var 1) (se_call 2 GG__law_dip hr (by decide) hg tk (by rfl) kb__law_dip_2 (sa_cons (se_var 0) (sa_cons (se_blt cs_len (by rfl) T.n_len (sa_cons (se_var 1) sa_nil)) sa_nil))))))
set_option maxHeartbeats 8000000 in
theorem d__law_tent (T : Glob K mg) (GG__law_lean : Gfn P w ⟨K, mg⟩ base 1 "_law_lean" st__law_lean ["top", "bottom"] G__law_lean) {f : Addr} {kV doc pm cdv ct oc : Value} {an od : Option Addr} {osl : Array (Option Value)}
    (lk : K.lookup f = some ⟨oc, od, .func (PySem.W.fnOf "_law_tent" "_law_tent" (defArgs st__law_tent) (defBody st__law_tent) (defScope st__law_tent) .none kV doc pm an cdv ct), osl⟩) (hcd : PySem.W.codeIn K cdv "_law_tent" = true) :
    DefOk P w ⟨K, mg⟩ base 2 f (PySem.W.fnOf "_law_tent" "_law_tent" (defArgs st__law_tent) (defBody st__law_tent) (defScope st__law_tent) .none kV doc pm an cdv ct) ["place"] R__law_tent := by
  refine defOk_of (N := N__law_tent) lk hcd sc__law_tent fun A outer s H E hr hg => ?_
  have hu := hr.units
  have hu5 := units5 hr
  have nd : (N__law_tent).Nodup := sc__law_tent.nd
  have tk := @takes_of (bodyX P w K mg base N__law_tent "_law_tent" (defScope st__law_tent) f cdv A outer s H E) E rfl rfl rfl _ rfl
  have hpass : PassesOwn _ _ _ _ := @passes_of (bodyX P w K mg base N__law_tent "_law_tent" (defScope st__law_tent) f cdv A outer s H E) _ _ rfl
  exact (ss_cons (sp_if (st_com ks_le (se_bin ks_mul se_int (se_ix (se_var 0) se_int)) (se_ix (se_var 0) se_int))
  (ss_one (sp_ret (se_call 2 GG__law_lean hr (by decide) hg tk (by rfl) kb__law_lean_2 (sa_cons (se_bin ks_mul se_int (se_ix (se_var 0) se_int)) (sa_cons (se_ix (se_var 0) se_int) sa_nil)))))
  ss_nil)
  (ss_one (sp_ret (se_call 2 GG__law_lean hr (by decide) hg tk (by rfl) kb__law_lean_2 (sa_cons (se_bin ks_sub (se_bin ks_mul se_int (se_ix (se_var 0) se_int)) (se_bin ks_mul se_int (se_ix (se_var 0) se_int))) (sa_cons (se_ix (se_var 0) se_int) sa_nil))))))
set_option maxHeartbeats 8000000 in
theorem d__law_loops (T : Glob K mg) (GG__law_next : Gfn P w ⟨K, mg⟩ base 1 "_law_next" st__law_next ["word", "size_here", "p"] G__law_next) {f : Addr} {kV doc pm cdv ct oc : Value} {an od : Option Addr} {osl : Array (Option Value)}
    (lk : K.lookup f = some ⟨oc, od, .func (PySem.W.fnOf "_law_loops" "_law_loops" (defArgs st__law_loops) (defBody st__law_loops) (defScope st__law_loops) .none kV doc pm an cdv ct), osl⟩) (hcd : PySem.W.codeIn K cdv "_law_loops" = true) :
    DefOk P w ⟨K, mg⟩ base 2 f (PySem.W.fnOf "_law_loops" "_law_loops" (defArgs st__law_loops) (defBody st__law_loops) (defScope st__law_loops) .none kV doc pm an cdv ct) ["word", "size_here"] R__law_loops := by
  refine defOk_of (N := N__law_loops) lk hcd sc__law_loops fun A outer s H E hr hg => ?_
  have hu := hr.units
  have hu5 := units5 hr
  have nd : (N__law_loops).Nodup := sc__law_loops.nd
  have tk := @takes_of (bodyX P w K mg base N__law_loops "_law_loops" (defScope st__law_loops) f cdv A outer s H E) E rfl rfl rfl _ rfl
  have hpass : PassesOwn _ _ _ _ := @passes_of (bodyX P w K mg base N__law_loops "_law_loops" (defScope st__law_loops) f cdv A outer s H E) _ _ rfl
  exact (ss_cons (sp_par (i := 2) (j := 3) rfl nd (sa_cons (se_lst sa_nil) (sa_cons (se_lst sa_nil) sa_nil)))
  (ss_cons (sp_for hpass rfl (si_rg1 (by rfl) T.n_range (sa_cons (se_var 1) sa_nil)) (sg_name 4 nd)
  (ss_one (sp_if (st_com (ks_nin hu hu5) (se_var 4) (se_var 2))
  (ss_cons (sp_par (i := 5) (j := 6) rfl nd (sa_cons (se_lst (sa_cons (se_var 4) sa_nil)) (sa_cons (se_call 3 GG__law_next hr (by decide) hg tk (by rfl) kb__law_next_3 (sa_cons (se_var 0) (sa_cons (se_var 1) (sa_cons (se_var 4) sa_nil)))) sa_nil)))
  (ss_cons (sp_for hpass rfl (si_rg1 (by rfl) T.n_range (sa_cons (se_var 1) sa_nil)) (sg_name 7 nd)
  (ss_one (sp_if (st_com (ks_ne hu) (se_var 6) (se_var 4))
  (ss_cons (sp_expr (se_mth PySem.F.plainAttrs_list PySem.F.slot_list_append PySem.F.type_list_append ms_app (se_var 5) (sa_cons (se_var 6) sa_nil)))
  (ss_one (sp_set 6 nd (se_call 3 GG__law_next hr (by decide) hg tk (by rfl) kb__law_next_3 (sa_cons (se_var 0) (sa_cons (se_var 1) (sa_cons (se_var 6) sa_nil)))))))
  ss_nil)))
  (ss_cons (sp_set 2 nd (se_bin ks_add (se_var 2) (se_var 5)))
  (ss_one (sp_expr (se_mth PySem.F.plainAttrs_list PySem.F.slot_list_append PySem.F.type_list_append ms_app (se_var 3) (sa_cons (se_bty cs_tpl (by rfl) T.n_tuple (sa_cons (se_var 5) sa_nil)) sa_nil)))))))
  ss_nil)))
  (ss_one (sp_ret (se_bty cs_tpl (by rfl) T.n_tuple (sa_cons (se_var 3) sa_nil))))))
set_option maxHeartbeats 8000000 in
theorem d_need_size (T : Glob K mg) (GG_is_size : Gfn P w ⟨K, mg⟩ base 2 "is_size" st_is_size ["value"] G_is_size) {f : Addr} {kV doc pm cdv ct oc : Value} {an od : Option Addr} {osl : Array (Option Value)}
    (lk : K.lookup f = some ⟨oc, od, .func (PySem.W.fnOf "need_size" "need_size" (defArgs st_need_size) (defBody st_need_size) (defScope st_need_size) .none kV doc pm an cdv ct), osl⟩) (hcd : PySem.W.codeIn K cdv "need_size" = true) :
    DefOk P w ⟨K, mg⟩ base 3 f (PySem.W.fnOf "need_size" "need_size" (defArgs st_need_size) (defBody st_need_size) (defScope st_need_size) .none kV doc pm an cdv ct) ["value"] R_need_size := by
  refine defOk_of (N := N_need_size) lk hcd sc_need_size fun A outer s H E hr hg => ?_
  have hu := hr.units
  have hu5 := units5 hr
  have nd : (N_need_size).Nodup := sc_need_size.nd
  have tk := @takes_of (bodyX P w K mg base N_need_size "need_size" (defScope st_need_size) f cdv A outer s H E) E rfl rfl rfl _ rfl
  have hpass : PassesOwn _ _ _ _ := @passes_of (bodyX P w K mg base N_need_size "need_size" (defScope st_need_size) f cdv A outer s H E) _ _ rfl
  exact (ss_one (sp_if (st_not (st_tru (se_call 1 GG_is_size hr (by decide) hg tk (by rfl) kb_is_size_1 (sa_cons (se_var 0) sa_nil))))
  (ss_one sp_never)
  ss_nil))
set_option maxHeartbeats 8000000 in
theorem d_place_after (T : Glob K mg) (GG__led : Gfn P w ⟨K, mg⟩ base 2 "_led" st__led ["shuffle", "size", "place", "power"] G__led) (GG__modulus : Gfn P w ⟨K, mg⟩ base 1 "_modulus" st__modulus ["shuffle", "size"] G__modulus) (GG__power_of_two : Gfn P w ⟨K, mg⟩ base 1 "_power_of_two" st__power_of_two ["exponent", "modulus"] G__power_of_two) (GG_need_number : Gfn P w ⟨K, mg⟩ base 2 "need_number" st_need_number ["value", "least", "most"] G_need_number) (GG_need_shuffle : Gfn P w ⟨K, mg⟩ base 2 "need_shuffle" st_need_shuffle ["value"] G_need_shuffle) (GG_need_size : Gfn P w ⟨K, mg⟩ base 3 "need_size" st_need_size ["value"] G_need_size) {f : Addr} {kV doc pm cdv ct oc : Value} {an od : Option Addr} {osl : Array (Option Value)}
    (lk : K.lookup f = some ⟨oc, od, .func (PySem.W.fnOf "place_after" "place_after" (defArgs st_place_after) (defBody st_place_after) (defScope st_place_after) .none kV doc pm an cdv ct), osl⟩) (hcd : PySem.W.codeIn K cdv "place_after" = true) :
    DefOk P w ⟨K, mg⟩ base 4 f (PySem.W.fnOf "place_after" "place_after" (defArgs st_place_after) (defBody st_place_after) (defScope st_place_after) .none kV doc pm an cdv ct) ["shuffle", "size", "number", "times"] R_place_after := by
  refine defOk_of (N := N_place_after) lk hcd sc_place_after fun A outer s H E hr hg => ?_
  have hu := hr.units
  have hu5 := units5 hr
  have nd : (N_place_after).Nodup := sc_place_after.nd
  have tk := @takes_of (bodyX P w K mg base N_place_after "place_after" (defScope st_place_after) f cdv A outer s H E) E rfl rfl rfl _ rfl
  have hpass : PassesOwn _ _ _ _ := @passes_of (bodyX P w K mg base N_place_after "place_after" (defScope st_place_after) f cdv A outer s H E) _ _ rfl
  exact (ss_cons (sp_expr (se_call 1 GG_need_shuffle hr (by decide) hg tk (by rfl) kb_need_shuffle_1 (sa_cons (se_var 0) sa_nil)))
  (ss_cons (sp_expr (se_call 1 GG_need_size hr (by decide) hg tk (by rfl) kb_need_size_1 (sa_cons (se_var 1) sa_nil)))
  (ss_cons (sp_expr (se_call 3 GG_need_number hr (by decide) hg tk (by rfl) kb_need_number_3 (sa_cons (se_var 2) (sa_cons se_int (sa_cons (se_bin ks_sub (se_var 1) se_int) sa_nil)))))
  (ss_cons (sp_expr (se_call 3 GG_need_number hr (by decide) hg tk (by rfl) kb_need_number_3 (sa_cons (se_var 3) (sa_cons se_int (sa_cons (se_gintE (by rfl) T.c__MOST_TIMES) sa_nil)))))
  (ss_one (sp_ret (se_call 4 GG__led hr (by decide) hg tk (by rfl) kb__led_4 (sa_cons (se_var 0) (sa_cons (se_var 1) (sa_cons (se_var 2) (sa_cons (se_call 2 GG__power_of_two hr (by decide) hg tk (by rfl) kb__power_of_two_2 (sa_cons (se_var 3) (sa_cons (se_call 2 GG__modulus hr (by decide) hg tk (by rfl) kb__modulus_2 (sa_cons (se_var 0) (sa_cons (se_var 1) sa_nil))) sa_nil))) sa_nil)))))))))))
set_option maxHeartbeats 8000000 in
theorem d_order_of (T : Glob K mg) (GG__modulus : Gfn P w ⟨K, mg⟩ base 1 "_modulus" st__modulus ["shuffle", "size"] G__modulus) (GG_need_shuffle : Gfn P w ⟨K, mg⟩ base 2 "need_shuffle" st_need_shuffle ["value"] G_need_shuffle) (GG_need_size : Gfn P w ⟨K, mg⟩ base 3 "need_size" st_need_size ["value"] G_need_size) {f : Addr} {kV doc pm cdv ct oc : Value} {an od : Option Addr} {osl : Array (Option Value)}
    (lk : K.lookup f = some ⟨oc, od, .func (PySem.W.fnOf "order_of" "order_of" (defArgs st_order_of) (defBody st_order_of) (defScope st_order_of) .none kV doc pm an cdv ct), osl⟩) (hcd : PySem.W.codeIn K cdv "order_of" = true) :
    DefOk P w ⟨K, mg⟩ base 4 f (PySem.W.fnOf "order_of" "order_of" (defArgs st_order_of) (defBody st_order_of) (defScope st_order_of) .none kV doc pm an cdv ct) ["shuffle", "size"] R_order_of := by
  refine defOk_of (N := N_order_of) lk hcd sc_order_of fun A outer s H E hr hg => ?_
  have hu := hr.units
  have hu5 := units5 hr
  have nd : (N_order_of).Nodup := sc_order_of.nd
  have tk := @takes_of (bodyX P w K mg base N_order_of "order_of" (defScope st_order_of) f cdv A outer s H E) E rfl rfl rfl _ rfl
  have hpass : PassesOwn _ _ _ _ := @passes_of (bodyX P w K mg base N_order_of "order_of" (defScope st_order_of) f cdv A outer s H E) _ _ rfl
  exact (ss_cons (sp_expr (se_call 1 GG_need_shuffle hr (by decide) hg tk (by rfl) kb_need_shuffle_1 (sa_cons (se_var 0) sa_nil)))
  (ss_cons (sp_expr (se_call 1 GG_need_size hr (by decide) hg tk (by rfl) kb_need_size_1 (sa_cons (se_var 1) sa_nil)))
  (ss_cons (sp_set 2 nd (se_call 2 GG__modulus hr (by decide) hg tk (by rfl) kb__modulus_2 (sa_cons (se_var 0) (sa_cons (se_var 1) sa_nil))))
  (ss_cons (sp_set 3 nd (se_ite (st_com (ks_eq hu) (se_var 0) (se_str [102, 111, 108, 100])) (se_tup (sa_cons (se_bin ks_mod se_int (se_var 2)) (sa_cons (se_bin ks_sub (se_var 2) se_int) sa_nil))) (se_tup (sa_cons (se_bin ks_mod se_int (se_var 2)) sa_nil))))
  (ss_cons (sp_set 4 nd se_int)
  (ss_cons (sp_set 5 nd (se_bin ks_mod se_int (se_var 2)))
  (ss_cons (sp_while 7000 hpass (st_com (ks_nin hu hu5) (se_var 5) (se_var 3))
  (ss_cons (sp_aug (i := 4) nd se_int ks_iadd)
  (ss_one (sp_set 5 nd (se_bin ks_mod (se_bin ks_mul se_int (se_var 5)) (se_var 2))))))
  (ss_one (sp_ret (se_var 4))))))))))
set_option maxHeartbeats 8000000 in
theorem d_deck_after (T : Glob K mg) (GG__led : Gfn P w ⟨K, mg⟩ base 2 "_led" st__led ["shuffle", "size", "place", "power"] G__led) (GG__modulus : Gfn P w ⟨K, mg⟩ base 1 "_modulus" st__modulus ["shuffle", "size"] G__modulus) (GG__need_few : Gfn P w ⟨K, mg⟩ base 1 "_need_few" st__need_few ["size"] G__need_few) (GG__power_of_two : Gfn P w ⟨K, mg⟩ base 1 "_power_of_two" st__power_of_two ["exponent", "modulus"] G__power_of_two) (GG_need_number : Gfn P w ⟨K, mg⟩ base 2 "need_number" st_need_number ["value", "least", "most"] G_need_number) (GG_need_shuffle : Gfn P w ⟨K, mg⟩ base 2 "need_shuffle" st_need_shuffle ["value"] G_need_shuffle) (GG_need_size : Gfn P w ⟨K, mg⟩ base 3 "need_size" st_need_size ["value"] G_need_size) {f : Addr} {kV doc pm cdv ct oc : Value} {an od : Option Addr} {osl : Array (Option Value)}
    (lk : K.lookup f = some ⟨oc, od, .func (PySem.W.fnOf "deck_after" "deck_after" (defArgs st_deck_after) (defBody st_deck_after) (defScope st_deck_after) .none kV doc pm an cdv ct), osl⟩) (hcd : PySem.W.codeIn K cdv "deck_after" = true) :
    DefOk P w ⟨K, mg⟩ base 4 f (PySem.W.fnOf "deck_after" "deck_after" (defArgs st_deck_after) (defBody st_deck_after) (defScope st_deck_after) .none kV doc pm an cdv ct) ["shuffle", "size", "times"] R_deck_after := by
  refine defOk_of (N := N_deck_after) lk hcd sc_deck_after fun A outer s H E hr hg => ?_
  have hu := hr.units
  have hu5 := units5 hr
  have nd : (N_deck_after).Nodup := sc_deck_after.nd
  have tk := @takes_of (bodyX P w K mg base N_deck_after "deck_after" (defScope st_deck_after) f cdv A outer s H E) E rfl rfl rfl _ rfl
  have hpass : PassesOwn _ _ _ _ := @passes_of (bodyX P w K mg base N_deck_after "deck_after" (defScope st_deck_after) f cdv A outer s H E) _ _ rfl
  exact (ss_cons (sp_expr (se_call 1 GG_need_shuffle hr (by decide) hg tk (by rfl) kb_need_shuffle_1 (sa_cons (se_var 0) sa_nil)))
  (ss_cons (sp_expr (se_call 1 GG_need_size hr (by decide) hg tk (by rfl) kb_need_size_1 (sa_cons (se_var 1) sa_nil)))
  (ss_cons (sp_expr (se_call 3 GG_need_number hr (by decide) hg tk (by rfl) kb_need_number_3 (sa_cons (se_var 2) (sa_cons se_int (sa_cons (se_gintE (by rfl) T.c__MOST_TIMES) sa_nil)))))
  (ss_cons (sp_expr (se_call 1 GG__need_few hr (by decide) hg tk (by rfl) kb__need_few_1 (sa_cons (se_var 1) sa_nil)))
  (ss_cons (sp_set 3 nd (se_call 2 GG__power_of_two hr (by decide) hg tk (by rfl) kb__power_of_two_2 (sa_cons (se_var 2) (sa_cons (se_call 2 GG__modulus hr (by decide) hg tk (by rfl) kb__modulus_2 (sa_cons (se_var 0) (sa_cons (se_var 1) sa_nil))) sa_nil))))
  (ss_cons (sp_set 4 nd (se_bin ks_mul (se_lst (sa_cons se_int sa_nil)) (se_var 1)))
  (ss_cons (sp_for hpass rfl (si_rg1 (by rfl) T.n_range (sa_cons (se_var 1) sa_nil)) (sg_name 5 nd)
  (ss_one (sp_asg (se_var 5) (sg_sub (se_var 4) (se_call 4 GG__led hr (by decide) hg takes0 (by rfl) kb__led_4 (sa_cons (se_var 0) (sa_cons (se_var 1) (sa_cons (se_var 5) (sa_cons (se_var 3) sa_nil)))))))))
  (ss_one (sp_ret (se_bty cs_tpl (by rfl) T.n_tuple (sa_cons (se_var 4) sa_nil)))))))))))
set_option maxHeartbeats 8000000 in
theorem d_loops (T : Glob K mg) (GG__led : Gfn P w ⟨K, mg⟩ base 2 "_led" st__led ["shuffle", "size", "place", "power"] G__led) (GG__need_few : Gfn P w ⟨K, mg⟩ base 1 "_need_few" st__need_few ["size"] G__need_few) (GG_need_shuffle : Gfn P w ⟨K, mg⟩ base 2 "need_shuffle" st_need_shuffle ["value"] G_need_shuffle) (GG_need_size : Gfn P w ⟨K, mg⟩ base 3 "need_size" st_need_size ["value"] G_need_size) {f : Addr} {kV doc pm cdv ct oc : Value} {an od : Option Addr} {osl : Array (Option Value)}
    (lk : K.lookup f = some ⟨oc, od, .func (PySem.W.fnOf "loops" "loops" (defArgs st_loops) (defBody st_loops) (defScope st_loops) .none kV doc pm an cdv ct), osl⟩) (hcd : PySem.W.codeIn K cdv "loops" = true) :
    DefOk P w ⟨K, mg⟩ base 4 f (PySem.W.fnOf "loops" "loops" (defArgs st_loops) (defBody st_loops) (defScope st_loops) .none kV doc pm an cdv ct) ["shuffle", "size"] R_loops := by
  refine defOk_of (N := N_loops) lk hcd sc_loops fun A outer s H E hr hg => ?_
  have hu := hr.units
  have hu5 := units5 hr
  have nd : (N_loops).Nodup := sc_loops.nd
  have tk := @takes_of (bodyX P w K mg base N_loops "loops" (defScope st_loops) f cdv A outer s H E) E rfl rfl rfl _ rfl
  have hpass : PassesOwn _ _ _ _ := @passes_of (bodyX P w K mg base N_loops "loops" (defScope st_loops) f cdv A outer s H E) _ _ rfl
  exact (ss_cons (sp_expr (se_call 1 GG_need_shuffle hr (by decide) hg tk (by rfl) kb_need_shuffle_1 (sa_cons (se_var 0) sa_nil)))
  (ss_cons (sp_expr (se_call 1 GG_need_size hr (by decide) hg tk (by rfl) kb_need_size_1 (sa_cons (se_var 1) sa_nil)))
  (ss_cons (sp_expr (se_call 1 GG__need_few hr (by decide) hg tk (by rfl) kb__need_few_1 (sa_cons (se_var 1) sa_nil)))
  (ss_cons (sp_set 2 nd (se_lst sa_nil))
  (ss_cons (sp_set 3 nd (se_bin ks_mul (se_lst (sa_cons se_bl sa_nil)) (se_var 1)))
  (ss_cons (sp_for hpass rfl (si_rg1 (by rfl) T.n_range (sa_cons (se_var 1) sa_nil)) (sg_name 4 nd)
  (ss_cons (sp_set 5 nd (se_lst sa_nil))
  (ss_cons (sp_set 6 nd (se_var 4))
  (ss_cons (sp_while 1000 hpass (st_not (st_tru (se_ix (se_var 3) (se_var 6))))
  (ss_cons (sp_asg se_bl (sg_sub (se_var 3) (se_var 6)))
  (ss_cons (sp_expr (se_mth PySem.F.plainAttrs_list PySem.F.slot_list_append PySem.F.type_list_append ms_app (se_var 5) (sa_cons (se_var 6) sa_nil)))
  (ss_one (sp_set 6 nd (se_call 4 GG__led hr (by decide) hg tk (by rfl) kb__led_4 (sa_cons (se_var 0) (sa_cons (se_var 1) (sa_cons (se_var 6) (sa_cons se_int sa_nil))))))))))
  (ss_one (sp_if (st_tru (se_var 5))
  (ss_one (sp_expr (se_mth PySem.F.plainAttrs_list PySem.F.slot_list_append PySem.F.type_list_append ms_app (se_var 2) (sa_cons (se_bty cs_tpl (by rfl) T.n_tuple (sa_cons (se_var 5) sa_nil)) sa_nil))))
  ss_nil))))))
  (ss_one (sp_ret (se_bty cs_tpl (by rfl) T.n_tuple (sa_cons (se_var 2) sa_nil))))))))))
set_option maxHeartbeats 8000000 in
theorem d_row_to (T : Glob K mg) (GG_need_number : Gfn P w ⟨K, mg⟩ base 2 "need_number" st_need_number ["value", "least", "most"] G_need_number) (GG_need_size : Gfn P w ⟨K, mg⟩ base 3 "need_size" st_need_size ["value"] G_need_size) {f : Addr} {kV doc pm cdv ct oc : Value} {an od : Option Addr} {osl : Array (Option Value)}
    (lk : K.lookup f = some ⟨oc, od, .func (PySem.W.fnOf "row_to" "row_to" (defArgs st_row_to) (defBody st_row_to) (defScope st_row_to) .none kV doc pm an cdv ct), osl⟩) (hcd : PySem.W.codeIn K cdv "row_to" = true) :
    DefOk P w ⟨K, mg⟩ base 4 f (PySem.W.fnOf "row_to" "row_to" (defArgs st_row_to) (defBody st_row_to) (defScope st_row_to) .none kV doc pm an cdv ct) ["size", "number"] R_row_to := by
  refine defOk_of (N := N_row_to) lk hcd sc_row_to fun A outer s H E hr hg => ?_
  have hu := hr.units
  have hu5 := units5 hr
  have nd : (N_row_to).Nodup := sc_row_to.nd
  have tk := @takes_of (bodyX P w K mg base N_row_to "row_to" (defScope st_row_to) f cdv A outer s H E) E rfl rfl rfl _ rfl
  have hpass : PassesOwn _ _ _ _ := @passes_of (bodyX P w K mg base N_row_to "row_to" (defScope st_row_to) f cdv A outer s H E) _ _ rfl
  exact (ss_cons (sp_expr (se_call 1 GG_need_size hr (by decide) hg tk (by rfl) kb_need_size_1 (sa_cons (se_var 0) sa_nil)))
  (ss_cons (sp_expr (se_call 3 GG_need_number hr (by decide) hg tk (by rfl) kb_need_number_3 (sa_cons (se_var 1) (sa_cons se_int (sa_cons (se_bin ks_sub (se_var 0) se_int) sa_nil)))))
  (ss_cons (sp_set 2 nd (se_lst sa_nil))
  (ss_cons (sp_set 3 nd (se_var 1))
  (ss_cons (sp_while 1000 hpass (st_com ks_gt (se_var 3) se_int)
  (ss_cons (sp_expr (se_mth PySem.F.plainAttrs_list PySem.F.slot_list_append PySem.F.type_list_append ms_app (se_var 2) (sa_cons (se_ite (st_com (ks_eq hu) (se_bin ks_mod (se_var 3) se_int) se_int) (se_str [105]) (se_str [111])) sa_nil)))
  (ss_one (sp_set 3 nd (se_bin ks_fdv (se_var 3) se_int)))))
  (ss_one (sp_ret (se_mth PySem.F.plainAttrs_str PySem.F.slot_str_join PySem.F.type_str_join ms_join (se_str []) (sa_cons (se_rev (se_var 2)) sa_nil)))))))))
set_option maxHeartbeats 8000000 in
theorem d__law_small_right (T : Glob K mg) (GG__law_common : Gfn P w ⟨K, mg⟩ base 1 "_law_common" st__law_common ["one", "two"] G__law_common) (GG__law_dip : Gfn P w ⟨K, mg⟩ base 1 "_law_dip" st__law_dip ["jar", "many"] G__law_dip) (GG__law_loops : Gfn P w ⟨K, mg⟩ base 2 "_law_loops" st__law_loops ["word", "size_here"] G__law_loops) (GG__law_next : Gfn P w ⟨K, mg⟩ base 1 "_law_next" st__law_next ["word", "size_here", "p"] G__law_next) (GG_deck_after : Gfn P w ⟨K, mg⟩ base 4 "deck_after" st_deck_after ["shuffle", "size", "times"] G_deck_after) (GG_loops : Gfn P w ⟨K, mg⟩ base 4 "loops" st_loops ["shuffle", "size"] G_loops) (GG_order_of : Gfn P w ⟨K, mg⟩ base 4 "order_of" st_order_of ["shuffle", "size"] G_order_of) (GG_place_after : Gfn P w ⟨K, mg⟩ base 4 "place_after" st_place_after ["shuffle", "size", "number", "times"] G_place_after) {f : Addr} {kV doc pm cdv ct oc : Value} {an od : Option Addr} {osl : Array (Option Value)}
    (lk : K.lookup f = some ⟨oc, od, .func (PySem.W.fnOf "_law_small_right" "_law_small_right" (defArgs st__law_small_right) (defBody st__law_small_right) (defScope st__law_small_right) .none kV doc pm an cdv ct), osl⟩) (hcd : PySem.W.codeIn K cdv "_law_small_right" = true) :
    DefOk P w ⟨K, mg⟩ base 5 f (PySem.W.fnOf "_law_small_right" "_law_small_right" (defArgs st__law_small_right) (defBody st__law_small_right) (defScope st__law_small_right) .none kV doc pm an cdv ct) ["jar", "word", "size_here"] R__law_small_right := by
  refine defOk_of (N := N__law_small_right) lk hcd sc__law_small_right fun A outer s H E hr hg => ?_
  have hu := hr.units
  have hu5 := units5 hr
  have nd : (N__law_small_right).Nodup := sc__law_small_right.nd
  have tk := @takes_of (bodyX P w K mg base N__law_small_right "_law_small_right" (defScope st__law_small_right) f cdv A outer s H E) E rfl rfl rfl _ rfl
  have hpass : PassesOwn _ _ _ _ := @passes_of (bodyX P w K mg base N__law_small_right "_law_small_right" (defScope st__law_small_right) f cdv A outer s H E) _ _ rfl
  exact (ss_cons (sp_par (i := 3) (j := 4) rfl nd (sa_cons (se_call 2 GG__law_dip hr (by decide) hg tk (by rfl) kb__law_dip_2 (sa_cons (se_var 0) (sa_cons se_int sa_nil))) (sa_cons (se_call 2 GG__law_loops hr (by decide) hg tk (by rfl) kb__law_loops_2 (sa_cons (se_var 1) (sa_cons (se_var 2) sa_nil))) sa_nil)))
  (ss_cons (sp_set 5 nd se_int)
  (ss_cons (sp_for hpass rfl (si_any (se_var 4)) (sg_name 6 nd)
  (ss_one (sp_set 5 nd (se_bin ks_fdv (se_bin ks_mul (se_var 5) (se_blt cs_len (by rfl) T.n_len (sa_cons (se_var 6) sa_nil))) (se_call 2 GG__law_common hr (by decide) hg tk (by rfl) kb__law_common_2 (sa_cons (se_var 5) (sa_cons (se_blt cs_len (by rfl) T.n_len (sa_cons (se_var 6) sa_nil)) sa_nil)))))))
  (ss_cons (sp_if (PW.pt (sw_or (st_com (ks_ne hu) (se_call 2 GG_loops hr (by decide) hg tk (by rfl) kb_loops_2 (sa_cons (se_var 1) (sa_cons (se_var 2) sa_nil))) (se_var 4)) (sw_or1 (st_com (ks_ne hu) (se_call 2 GG_order_of hr (by decide) hg tk (by rfl) kb_order_of_2 (sa_cons (se_var 1) (sa_cons (se_var 2) sa_nil))) (se_var 5)))))
  (ss_one (sp_ret se_bl))
  ss_nil)
  (ss_cons (sp_set 7 nd (se_bin ks_mul (se_lst (sa_cons se_int sa_nil)) (se_var 2)))
  (ss_cons (sp_for hpass rfl (si_rg1 (by rfl) T.n_range (sa_cons (se_var 2) sa_nil)) (sg_name 8 nd)
  (ss_cons (sp_set 9 nd (se_var 8))
  (ss_cons (sp_for hpass rfl (si_rg1 (by rfl) T.n_range (sa_cons (se_var 3) sa_nil)) (sg_name 10 nd)
  (ss_one (sp_set 9 nd (se_call 3 GG__law_next hr (by decide) hg tk (by rfl) kb__law_next_3 (sa_cons (se_var 1) (sa_cons (se_var 2) (sa_cons (se_var 9) sa_nil)))))))
  (ss_cons (sp_asg (se_var 8) (sg_sub (se_var 7) (se_var 9)))
  (ss_one (sp_if (st_com (ks_ne hu) (se_call 4 GG_place_after hr (by decide) hg tk (by rfl) kb_place_after_4 (sa_cons (se_var 1) (sa_cons (se_var 2) (sa_cons (se_var 8) (sa_cons (se_bin ks_add (se_var 3) (se_bin ks_mul (se_var 5) (se_bin ks_pow se_int se_int))) sa_nil))))) (se_var 9))
  (ss_one (sp_ret se_bl))
  ss_nil))))))
  (ss_one (sp_ret (se_com (ks_eq hu) (se_call 3 GG_deck_after hr (by decide) hg tk (by rfl) kb_deck_after_3 (sa_cons (se_var 1) (sa_cons (se_var 2) (sa_cons (se_var 3) sa_nil)))) (se_bty cs_tpl (by rfl) T.n_tuple (sa_cons (se_var 7) sa_nil)))))))))))
set_option maxHeartbeats 8000000 in
theorem d__law_row_right (T : Glob K mg) (GG__law_next : Gfn P w ⟨K, mg⟩ base 1 "_law_next" st__law_next ["word", "size_here", "p"] G__law_next) (GG_row_to : Gfn P w ⟨K, mg⟩ base 4 "row_to" st_row_to ["size", "number"] G_row_to) {f : Addr} {kV doc pm cdv ct oc : Value} {an od : Option Addr} {osl : Array (Option Value)}
    (lk : K.lookup f = some ⟨oc, od, .func (PySem.W.fnOf "_law_row_right" "_law_row_right" (defArgs st__law_row_right) (defBody st__law_row_right) (defScope st__law_row_right) .none kV doc pm an cdv ct), osl⟩) (hcd : PySem.W.codeIn K cdv "_law_row_right" = true) :
    DefOk P w ⟨K, mg⟩ base 5 f (PySem.W.fnOf "_law_row_right" "_law_row_right" (defArgs st__law_row_right) (defBody st__law_row_right) (defScope st__law_row_right) .none kV doc pm an cdv ct) ["size_here", "goal"] R__law_row_right := by
  refine defOk_of (N := N__law_row_right) lk hcd sc__law_row_right fun A outer s H E hr hg => ?_
  have hu := hr.units
  have hu5 := units5 hr
  have nd : (N__law_row_right).Nodup := sc__law_row_right.nd
  have tk := @takes_of (bodyX P w K mg base N__law_row_right "_law_row_right" (defScope st__law_row_right) f cdv A outer s H E) E rfl rfl rfl _ rfl
  have hpass : PassesOwn _ _ _ _ := @passes_of (bodyX P w K mg base N__law_row_right "_law_row_right" (defScope st__law_row_right) f cdv A outer s H E) _ _ rfl
  exact (ss_cons (sp_set 2 nd (se_call 2 GG_row_to hr (by decide) hg tk (by rfl) kb_row_to_2 (sa_cons (se_var 0) (sa_cons (se_var 1) sa_nil))))
  (ss_cons (sp_set 3 nd (se_lst (sa_cons (se_tup (sa_cons (se_str []) (sa_cons se_int sa_nil))) sa_nil)))
  (ss_cons (sp_for hpass rfl (si_rg1 (by rfl) T.n_range (sa_cons se_int sa_nil)) (sg_name 4 nd)
  (ss_cons (sp_setLc 5 rfl nd rfl rfl (sw_true rfl rfl rfl (by decide +kernel)) (si_any (se_var 3)) (blkOk_by (own := [("row", 7), ("p", 8)]) (N := N__law_row_right) (sc := defScope st__law_row_right) (by decide +kernel)) (nt_tup (nts_cons (nt_name 7) (nts_cons (nt_name 8) nts_nil))) (fun _ _ _ _ _ => (pg_tl rfl (pgs_cons (pg_name (i := 7) nd rfl (by first | exact Or.inl rfl | exact Or.inr rfl)) (pgs_cons (pg_name (i := 8) nd rfl (by first | exact Or.inl rfl | exact Or.inr rfl)) pgs_nil)))) (fun _ _ _ _ _ => sts_one (st_com (ks_eq hu) (se_var 8) (se_var 1))) (fun _ _ _ _ _ => (se_var 7)))
  (ss_cons (sp_if (st_com (ks_ne hu) (se_var 5) (se_lst sa_nil))
  (ss_one (sp_ret (se_com (ks_eq hu) (se_var 2) (se_blt (cs_minS rfl) (by rfl) T.n_min (sa_cons (se_var 5) sa_nil)))))
  ss_nil)
  (ss_cons (sp_set 6 nd (se_lst sa_nil))
  (ss_cons (sp_for hpass rfl (si_any (se_var 3)) (sg_tup rfl (sgs_cons (sg_name 7 nd) (sgs_cons (sg_name 8 nd) sgs_nil)))
  (ss_cons (sp_expr (se_mth PySem.F.plainAttrs_list PySem.F.slot_list_append PySem.F.type_list_append ms_app (se_var 6) (sa_cons (se_tup (sa_cons (se_bin ks_add (se_var 7) (se_str [105])) (sa_cons (se_call 3 GG__law_next hr (by decide) hg tk (by rfl) kb__law_next_3 (sa_cons (se_str [105, 110]) (sa_cons (se_var 0) (sa_cons (se_var 8) sa_nil)))) sa_nil))) sa_nil)))
  (ss_one (sp_expr (se_mth PySem.F.plainAttrs_list PySem.F.slot_list_append PySem.F.type_list_append ms_app (se_var 6) (sa_cons (se_tup (sa_cons (se_bin ks_add (se_var 7) (se_str [111])) (sa_cons (se_call 3 GG__law_next hr (by decide) hg tk (by rfl) kb__law_next_3 (sa_cons (se_str [111, 117, 116]) (sa_cons (se_var 0) (sa_cons (se_var 8) sa_nil)))) sa_nil))) sa_nil))))))
  (ss_cons (sp_par (i := 3) (j := 9) rfl nd (sa_cons (se_lst sa_nil) (sa_cons (se_lst sa_nil) sa_nil)))
  (ss_one (sp_for hpass rfl (si_any (se_blt (cs_srtX [true, false]) (by rfl) T.n_sorted (sa_cons (se_var 6) sa_nil))) (sg_tup rfl (sgs_cons (sg_name 7 nd) (sgs_cons (sg_name 8 nd) sgs_nil)))
  (ss_one (sp_if (st_com (ks_nin hu hu5) (se_var 8) (se_var 9))
  (ss_cons (sp_expr (se_mth PySem.F.plainAttrs_list PySem.F.slot_list_append PySem.F.type_list_append ms_app (se_var 9) (sa_cons (se_var 8) sa_nil)))
  (ss_one (sp_expr (se_mth PySem.F.plainAttrs_list PySem.F.slot_list_append PySem.F.type_list_append ms_app (se_var 3) (sa_cons (se_tup (sa_cons (se_var 7) (sa_cons (se_var 8) sa_nil))) sa_nil)))))
  ss_nil))))))))))
  (ss_one (sp_ret se_bl)))))
set_option maxHeartbeats 8000000 in
theorem d__law_great_right (T : Glob K mg) (GG__law_dip : Gfn P w ⟨K, mg⟩ base 1 "_law_dip" st__law_dip ["jar", "many"] G__law_dip) (GG__law_next : Gfn P w ⟨K, mg⟩ base 1 "_law_next" st__law_next ["word", "size_here", "p"] G__law_next) (GG__law_pick : Gfn P w ⟨K, mg⟩ base 2 "_law_pick" st__law_pick ["jar", "some"] G__law_pick) (GG_order_of : Gfn P w ⟨K, mg⟩ base 4 "order_of" st_order_of ["shuffle", "size"] G_order_of) (GG_place_after : Gfn P w ⟨K, mg⟩ base 4 "place_after" st_place_after ["shuffle", "size", "number", "times"] G_place_after) {f : Addr} {kV doc pm cdv ct oc : Value} {an od : Option Addr} {osl : Array (Option Value)}
    (lk : K.lookup f = some ⟨oc, od, .func (PySem.W.fnOf "_law_great_right" "_law_great_right" (defArgs st__law_great_right) (defBody st__law_great_right) (defScope st__law_great_right) .none kV doc pm an cdv ct), osl⟩) (hcd : PySem.W.codeIn K cdv "_law_great_right" = true) :
    DefOk P w ⟨K, mg⟩ base 5 f (PySem.W.fnOf "_law_great_right" "_law_great_right" (defArgs st__law_great_right) (defBody st__law_great_right) (defScope st__law_great_right) .none kV doc pm an cdv ct) ["jar"] R__law_great_right := by
  refine defOk_of (N := N__law_great_right) lk hcd sc__law_great_right fun A outer s H E hr hg => ?_
  have hu := hr.units
  have hu5 := units5 hr
  have nd : (N__law_great_right).Nodup := sc__law_great_right.nd
  have tk := @takes_of (bodyX P w K mg base N__law_great_right "_law_great_right" (defScope st__law_great_right) f cdv A outer s H E) E rfl rfl rfl _ rfl
  have hpass : PassesOwn _ _ _ _ := @passes_of (bodyX P w K mg base N__law_great_right "_law_great_right" (defScope st__law_great_right) f cdv A outer s H E) _ _ rfl
  exact (ss_cons (sp_par (i := 1) (j := 2) rfl nd (sa_cons (se_bin ks_add se_int (se_bin ks_mul se_int (se_call 2 GG__law_dip hr (by decide) hg tk (by rfl) kb__law_dip_2 (sa_cons (se_var 0) (sa_cons se_int sa_nil))))) (sa_cons (se_call 2 GG__law_pick hr (by decide) hg tk (by rfl) kb__law_pick_2 (sa_cons (se_var 0) (sa_cons (se_lst (sa_cons (se_str [111, 117, 116]) (sa_cons (se_str [105, 110]) (sa_cons (se_str [102, 111, 108, 100]) sa_nil)))) sa_nil))) sa_nil)))
  (ss_cons (sp_par (i := 3) (j := 4) rfl nd (sa_cons (se_call 2 GG_order_of hr (by decide) hg tk (by rfl) kb_order_of_2 (sa_cons (se_var 2) (sa_cons (se_var 1) sa_nil))) (sa_cons (se_call 2 GG__law_dip hr (by decide) hg tk (by rfl) kb__law_dip_2 (sa_cons (se_var 0) (sa_cons (se_var 1) sa_nil))) sa_nil)))
  (ss_cons (sp_if (st_com (ks_ne hu) (se_call 4 GG_place_after hr (by decide) hg tk (by rfl) kb_place_after_4 (sa_cons (se_var 2) (sa_cons (se_var 1) (sa_cons (se_var 4) (sa_cons (se_var 3) sa_nil))))) (se_var 4))
  (ss_one (sp_ret se_bl))
  ss_nil)
  (ss_cons (sp_set 5 nd (se_ite (st_com (ks_eq hu) (se_var 2) (se_str [111, 117, 116])) (se_bin ks_sub (se_var 1) se_int) (se_ite (st_com (ks_eq hu) (se_var 2) (se_str [105, 110])) (se_bin ks_add (se_var 1) se_int) (se_bin ks_sub (se_bin ks_mul se_int (se_var 1)) se_int))))
  (ss_cons (sp_set 6 nd se_int)
  (ss_cons (sp_for hpass rfl (si_rg1 (by rfl) T.n_range (sa_cons (se_blt (cs_min rfl) (by rfl) T.n_min (sa_cons (se_var 3) (sa_cons se_int sa_nil))) sa_nil)) (sg_name 7 nd)
  (ss_cons (sp_set 6 nd (se_ite (st_com ks_gt (se_var 5) se_int) (se_bin ks_mod (se_bty cs_int (by rfl) T.n_int (sa_cons (se_bin ks_mul se_int (se_var 6)) sa_nil)) (se_var 5)) se_int))
  (ss_cons (sp_set 8 nd (se_or (se_com (ks_eq hu) (se_var 6) se_int) (se_or (se_and (se_com (ks_eq hu) (se_var 2) (se_str [102, 111, 108, 100])) (se_one (se_com (ks_eq hu) (se_var 6) (se_bin ks_sub (se_var 5) se_int)))) (se_one (se_com (ks_eq hu) (se_var 5) se_int)))))
  (ss_one (sp_if (st_com (ks_ne hu) (se_var 8) (se_com (ks_eq hu) (se_var 7) (se_bin ks_sub (se_var 3) se_int)))
  (ss_one (sp_ret se_bl))
  ss_nil)))))
  (ss_one (sp_ret (se_com (ks_eq hu) (se_call 4 GG_place_after hr (by decide) hg tk (by rfl) kb_place_after_4 (sa_cons (se_var 2) (sa_cons (se_var 1) (sa_cons (se_var 4) (sa_cons se_int sa_nil))))) (se_call 3 GG__law_next hr (by decide) hg tk (by rfl) kb__law_next_3 (sa_cons (se_var 2) (sa_cons (se_var 1) (sa_cons (se_var 4) sa_nil)))))))))))))
set_option maxHeartbeats 8000000 in
theorem d__law_right (T : Glob K mg) (GG__law_dip : Gfn P w ⟨K, mg⟩ base 1 "_law_dip" st__law_dip ["jar", "many"] G__law_dip) (GG__law_great_right : Gfn P w ⟨K, mg⟩ base 5 "_law_great_right" st__law_great_right ["jar"] G__law_great_right) (GG__law_lean : Gfn P w ⟨K, mg⟩ base 1 "_law_lean" st__law_lean ["top", "bottom"] G__law_lean) (GG__law_pick : Gfn P w ⟨K, mg⟩ base 2 "_law_pick" st__law_pick ["jar", "some"] G__law_pick) (GG__law_row_right : Gfn P w ⟨K, mg⟩ base 5 "_law_row_right" st__law_row_right ["size_here", "goal"] G__law_row_right) (GG__law_small_right : Gfn P w ⟨K, mg⟩ base 5 "_law_small_right" st__law_small_right ["jar", "word", "size_here"] G__law_small_right) (GG__law_tent : Gfn P w ⟨K, mg⟩ base 2 "_law_tent" st__law_tent ["place"] G__law_tent) (GG_place_after : Gfn P w ⟨K, mg⟩ base 4 "place_after" st_place_after ["shuffle", "size", "number", "times"] G_place_after) {f : Addr} {kV doc pm cdv ct oc : Value} {an od : Option Addr} {osl : Array (Option Value)}
    (lk : K.lookup f = some ⟨oc, od, .func (PySem.W.fnOf "_law_right" "_law_right" (defArgs st__law_right) (defBody st__law_right) (defScope st__law_right) .none kV doc pm an cdv ct), osl⟩) (hcd : PySem.W.codeIn K cdv "_law_right" = true) :
    DefOk P w ⟨K, mg⟩ base 6 f (PySem.W.fnOf "_law_right" "_law_right" (defArgs st__law_right) (defBody st__law_right) (defScope st__law_right) .none kV doc pm an cdv ct) ["jar"] R__law_right := by
  refine defOk_of (N := N__law_right) lk hcd sc__law_right fun A outer s H E hr hg => ?_
  have hu := hr.units
  have hu5 := units5 hr
  have nd : (N__law_right).Nodup := sc__law_right.nd
  have tk := @takes_of (bodyX P w K mg base N__law_right "_law_right" (defScope st__law_right) f cdv A outer s H E) E rfl rfl rfl _ rfl
  have hpass : PassesOwn _ _ _ _ := @passes_of (bodyX P w K mg base N__law_right "_law_right" (defScope st__law_right) f cdv A outer s H E) _ _ rfl
  exact (ss_cons (sp_par (i := 1) (j := 2) rfl nd (sa_cons (se_bin ks_add se_int (se_bin ks_mul se_int (se_call 2 GG__law_dip hr (by decide) hg tk (by rfl) kb__law_dip_2 (sa_cons (se_var 0) (sa_cons se_int sa_nil))))) (sa_cons (se_call 2 GG__law_pick hr (by decide) hg tk (by rfl) kb__law_pick_2 (sa_cons (se_var 0) (sa_cons (se_lst (sa_cons (se_str [111, 117, 116]) (sa_cons (se_str [105, 110]) (sa_cons (se_str [102, 111, 108, 100]) sa_nil)))) sa_nil))) sa_nil)))
  (ss_cons (sp_if (PW.pt (sw_or (st_not (st_tru (se_call 3 GG__law_small_right hr (by decide) hg tk (by rfl) kb__law_small_right_3 (sa_cons (se_var 0) (sa_cons (se_var 2) (sa_cons (se_var 1) sa_nil)))))) (sw_or1 (st_not (st_tru (se_call 2 GG__law_row_right hr (by decide) hg tk (by rfl) kb__law_row_right_2 (sa_cons (se_var 1) (sa_cons (se_call 2 GG__law_dip hr (by decide) hg tk (by rfl) kb__law_dip_2 (sa_cons (se_var 0) (sa_cons (se_var 1) sa_nil))) sa_nil))))))))
  (ss_one (sp_ret se_bl))
  ss_nil)
  (ss_cons (sp_par (i := 3) (j := 4) rfl nd (sa_cons (se_call 2 GG__law_dip hr (by decide) hg tk (by rfl) kb__law_dip_2 (sa_cons (se_var 0) (sa_cons (se_var 1) sa_nil))) (sa_cons (se_bin ks_add se_int (se_call 2 GG__law_dip hr (by decide) hg tk (by rfl) kb__law_dip_2 (sa_cons (se_var 0) (sa_cons se_int sa_nil)))) sa_nil)))
  (ss_cons (sp_set 5 nd (se_call 2 GG__law_lean hr (by decide) hg tk (by rfl) kb__law_lean_2 (sa_cons (se_bin ks_mul se_int (se_var 3)) (sa_cons (se_bin ks_sub (se_bin ks_mul se_int (se_var 1)) se_int) sa_nil))))
  (ss_cons (sp_for hpass rfl (si_rg1 (by rfl) T.n_range (sa_cons (se_var 4) sa_nil)) (sg_name 6 nd)
  (ss_one (sp_set 5 nd (se_call 1 GG__law_tent hr (by decide) hg tk (by rfl) kb__law_tent_1 (sa_cons (se_var 5) sa_nil)))))
  (ss_cons (sp_set 7 nd (se_call 4 GG_place_after hr (by decide) hg tk (by rfl) kb_place_after_4 (sa_cons (se_str [102, 111, 108, 100]) (sa_cons (se_var 1) (sa_cons (se_var 3) (sa_cons (se_var 4) sa_nil))))))
  (ss_cons (sp_if (st_com (ks_ne hu) (se_var 5) (se_call 2 GG__law_lean hr (by decide) hg tk (by rfl) kb__law_lean_2 (sa_cons (se_bin ks_mul se_int (se_var 7)) (sa_cons (se_bin ks_sub (se_bin ks_mul se_int (se_var 1)) se_int) sa_nil))))
  (ss_one (sp_ret se_bl))
  ss_nil)
  (ss_one (sp_ret (se_or (se_com ks_gt (se_call 2 GG__law_dip hr (by decide) hg tk (by rfl) kb__law_dip_2 (sa_cons (se_var 0) (sa_cons se_int sa_nil))) se_int) (se_one (se_call 1 GG__law_great_right hr (by decide) hg tk (by rfl) kb__law_great_right_1 (sa_cons (se_var 0) sa_nil)))))))))))))
set_option maxHeartbeats 8000000 in
theorem d_law (T : Glob K mg) (GG__law_jar : Gfn P w ⟨K, mg⟩ base 1 "_law_jar" st__law_jar ["script", "turn"] G__law_jar) (GG__law_right : Gfn P w ⟨K, mg⟩ base 6 "_law_right" st__law_right ["jar"] G__law_right) {f : Addr} {kV doc pm cdv ct oc : Value} {an od : Option Addr} {osl : Array (Option Value)}
    (lk : K.lookup f = some ⟨oc, od, .func (PySem.W.fnOf "law" "law" (defArgs st_law) (defBody st_law) (defScope st_law) .none kV doc pm an cdv ct), osl⟩) (hcd : PySem.W.codeIn K cdv "law" = true) :
    DefOk P w ⟨K, mg⟩ base 7 f (PySem.W.fnOf "law" "law" (defArgs st_law) (defBody st_law) (defScope st_law) .none kV doc pm an cdv ct) ["script"] R_law := by
  refine defOk_of (N := N_law) lk hcd sc_law fun A outer s H E hr hg => ?_
  have hu := hr.units
  have hu5 := units5 hr
  have nd : (N_law).Nodup := sc_law.nd
  have tk := @takes_of (bodyX P w K mg base N_law "law" (defScope st_law) f cdv A outer s H E) E rfl rfl rfl _ rfl
  have hpass : PassesOwn _ _ _ _ := @passes_of (bodyX P w K mg base N_law "law" (defScope st_law) f cdv A outer s H E) _ _ rfl
  exact (ss_one (sp_ret (se_blt (cs_all rfl) (by rfl) T.n_all (sa_cons (se_lc rfl nd (si_rg1 (by rfl) T.n_range (sa_cons (se_blt (cs_max rfl) (by rfl) T.n_max (sa_cons se_int (sa_cons (se_blt (cs_min rfl) (by rfl) T.n_min (sa_cons (se_blt cs_len (by rfl) T.n_len (sa_cons (se_var 0) sa_nil)) (sa_cons se_int sa_nil))) sa_nil))) sa_nil)) (blkOk_by (own := [("turn", 1)]) (N := N_law) (sc := defScope st_law) (by decide +kernel)) (nt_name 1) (fun _ _ _ _ _ => (pg_name (i := 1) nd rfl (by first | exact Or.inl rfl | exact Or.inr rfl))) (fun _ _ _ _ _ => sts_nil) (fun _ _ _ _ _ => (se_call 1 GG__law_right hr (by decide) hg takes0 (by rfl) kb__law_right_1 (sa_cons (se_call 2 GG__law_jar hr (by decide) hg takes0 (by rfl) kb__law_jar_2 (sa_cons (se_var 0) (sa_cons (se_var 1) sa_nil))) sa_nil)))) sa_nil))))
end
section
variable {P : Program} {w : World} {K : PySem.W.Frag} {h : Heap} {mg : Str → Option Value} {fa : Addr}
set_option maxHeartbeats 8000000 in
theorem all_mk (X : K.In h) (G : h.Ns mainGlobals mg) (hfa : mg "law" = some (.ref fa)) {f_0 f_1 f_2 f_3 f_4 f_5 f_6 f_7 f_8 f_9 f_10 f_11 f_12 f_13 f_14 f_15 f_16 f_17 f_18 f_19 f_20 f_21 f_22 f_23 f_24 f_25 f_26 f_27 : Addr} {od_0 od_1 od_2 od_3 od_4 od_5 od_6 od_7 od_8 od_9 od_10 od_11 od_12 od_13 od_14 od_15 od_16 od_17 od_18 od_19 od_20 od_21 od_22 od_23 od_24 od_25 od_26 od_27 an_0 an_1 an_2 an_3 an_4 an_5 an_6 an_7 an_8 an_9 an_10 an_11 an_12 an_13 an_14 an_15 an_16 an_17 an_18 an_19 an_20 an_21 an_22 an_23 an_24 an_25 an_26 an_27 : Option Addr} {sl_0 sl_1 sl_2 sl_3 sl_4 sl_5 sl_6 sl_7 sl_8 sl_9 sl_10 sl_11 sl_12 sl_13 sl_14 sl_15 sl_16 sl_17 sl_18 sl_19 sl_20 sl_21 sl_22 sl_23 sl_24 sl_25 sl_26 sl_27 : Array (Option Value)} {oc_0 oc_1 oc_2 oc_3 oc_4 oc_5 oc_6 oc_7 oc_8 oc_9 oc_10 oc_11 oc_12 oc_13 oc_14 oc_15 oc_16 oc_17 oc_18 oc_19 oc_20 oc_21 oc_22 oc_23 oc_24 oc_25 oc_26 oc_27 kV_0 kV_1 kV_2 kV_3 kV_4 kV_5 kV_6 kV_7 kV_8 kV_9 kV_10 kV_11 kV_12 kV_13 kV_14 kV_15 kV_16 kV_17 kV_18 kV_19 kV_20 kV_21 kV_22 kV_23 kV_24 kV_25 kV_26 kV_27 dc_0 dc_1 dc_2 dc_3 dc_4 dc_5 dc_6 dc_7 dc_8 dc_9 dc_10 dc_11 dc_12 dc_13 dc_14 dc_15 dc_16 dc_17 dc_18 dc_19 dc_20 dc_21 dc_22 dc_23 dc_24 dc_25 dc_26 dc_27 pm_0 pm_1 pm_2 pm_3 pm_4 pm_5 pm_6 pm_7 pm_8 pm_9 pm_10 pm_11 pm_12 pm_13 pm_14 pm_15 pm_16 pm_17 pm_18 pm_19 pm_20 pm_21 pm_22 pm_23 pm_24 pm_25 pm_26 pm_27 cd_0 cd_1 cd_2 cd_3 cd_4 cd_5 cd_6 cd_7 cd_8 cd_9 cd_10 cd_11 cd_12 cd_13 cd_14 cd_15 cd_16 cd_17 cd_18 cd_19 cd_20 cd_21 cd_22 cd_23 cd_24 cd_25 cd_26 cd_27 ct_0 ct_1 ct_2 ct_3 ct_4 ct_5 ct_6 ct_7 ct_8 ct_9 ct_10 ct_11 ct_12 ct_13 ct_14 ct_15 ct_16 ct_17 ct_18 ct_19 ct_20 ct_21 ct_22 ct_23 ct_24 ct_25 ct_26 ct_27 : Value} {t_MOST_DECK t__MOST_LISTED t__MOST_TIMES : Tok} {tu__SHUFFLES : Addr} {odt__SHUFFLES : Option Addr} {nt__SHUFFLES : Nat} {slt__SHUFFLES : Array (Option Value)} {tk__SHUFFLES_0 tk__SHUFFLES_1 tk__SHUFFLES_2 : Tok}
    (a_is_within : PySem.W.nsIn K mainGlobals "is_within" = some (some (.ref f_0))) (l_is_within : K.lookup f_0 = some ⟨oc_0, od_0, .func (PySem.W.fnOf "is_within" "is_within" (defArgs st_is_within) (defBody st_is_within) (defScope st_is_within) .none kV_0 dc_0 pm_0 an_0 cd_0 ct_0), sl_0⟩) (c_is_within : PySem.W.codeIn K cd_0 "is_within" = true) (k_is_within : PySem.W.keepIn K (.ref f_0) = true)
    (a_is_shuffle : PySem.W.nsIn K mainGlobals "is_shuffle" = some (some (.ref f_1))) (l_is_shuffle : K.lookup f_1 = some ⟨oc_1, od_1, .func (PySem.W.fnOf "is_shuffle" "is_shuffle" (defArgs st_is_shuffle) (defBody st_is_shuffle) (defScope st_is_shuffle) .none kV_1 dc_1 pm_1 an_1 cd_1 ct_1), sl_1⟩) (c_is_shuffle : PySem.W.codeIn K cd_1 "is_shuffle" = true) (k_is_shuffle : PySem.W.keepIn K (.ref f_1) = true)
    (a__need_few : PySem.W.nsIn K mainGlobals "_need_few" = some (some (.ref f_2))) (l__need_few : K.lookup f_2 = some ⟨oc_2, od_2, .func (PySem.W.fnOf "_need_few" "_need_few" (defArgs st__need_few) (defBody st__need_few) (defScope st__need_few) .none kV_2 dc_2 pm_2 an_2 cd_2 ct_2), sl_2⟩) (c__need_few : PySem.W.codeIn K cd_2 "_need_few" = true) (k__need_few : PySem.W.keepIn K (.ref f_2) = true)
    (a__modulus : PySem.W.nsIn K mainGlobals "_modulus" = some (some (.ref f_3))) (l__modulus : K.lookup f_3 = some ⟨oc_3, od_3, .func (PySem.W.fnOf "_modulus" "_modulus" (defArgs st__modulus) (defBody st__modulus) (defScope st__modulus) .none kV_3 dc_3 pm_3 an_3 cd_3 ct_3), sl_3⟩) (c__modulus : PySem.W.codeIn K cd_3 "_modulus" = true) (k__modulus : PySem.W.keepIn K (.ref f_3) = true)
    (a__power_of_two : PySem.W.nsIn K mainGlobals "_power_of_two" = some (some (.ref f_4))) (l__power_of_two : K.lookup f_4 = some ⟨oc_4, od_4, .func (PySem.W.fnOf "_power_of_two" "_power_of_two" (defArgs st__power_of_two) (defBody st__power_of_two) (defScope st__power_of_two) .none kV_4 dc_4 pm_4 an_4 cd_4 ct_4), sl_4⟩) (c__power_of_two : PySem.W.codeIn K cd_4 "_power_of_two" = true) (k__power_of_two : PySem.W.keepIn K (.ref f_4) = true)
    (a__law_jar : PySem.W.nsIn K mainGlobals "_law_jar" = some (some (.ref f_5))) (l__law_jar : K.lookup f_5 = some ⟨oc_5, od_5, .func (PySem.W.fnOf "_law_jar" "_law_jar" (defArgs st__law_jar) (defBody st__law_jar) (defScope st__law_jar) .none kV_5 dc_5 pm_5 an_5 cd_5 ct_5), sl_5⟩) (c__law_jar : PySem.W.codeIn K cd_5 "_law_jar" = true) (k__law_jar : PySem.W.keepIn K (.ref f_5) = true)
    (a__law_dip : PySem.W.nsIn K mainGlobals "_law_dip" = some (some (.ref f_6))) (l__law_dip : K.lookup f_6 = some ⟨oc_6, od_6, .func (PySem.W.fnOf "_law_dip" "_law_dip" (defArgs st__law_dip) (defBody st__law_dip) (defScope st__law_dip) .none kV_6 dc_6 pm_6 an_6 cd_6 ct_6), sl_6⟩) (c__law_dip : PySem.W.codeIn K cd_6 "_law_dip" = true) (k__law_dip : PySem.W.keepIn K (.ref f_6) = true)
    (a__law_lean : PySem.W.nsIn K mainGlobals "_law_lean" = some (some (.ref f_7))) (l__law_lean : K.lookup f_7 = some ⟨oc_7, od_7, .func (PySem.W.fnOf "_law_lean" "_law_lean" (defArgs st__law_lean) (defBody st__law_lean) (defScope st__law_lean) .none kV_7 dc_7 pm_7 an_7 cd_7 ct_7), sl_7⟩) (c__law_lean : PySem.W.codeIn K cd_7 "_law_lean" = true) (k__law_lean : PySem.W.keepIn K (.ref f_7) = true)
    (a__law_next : PySem.W.nsIn K mainGlobals "_law_next" = some (some (.ref f_8))) (l__law_next : K.lookup f_8 = some ⟨oc_8, od_8, .func (PySem.W.fnOf "_law_next" "_law_next" (defArgs st__law_next) (defBody st__law_next) (defScope st__law_next) .none kV_8 dc_8 pm_8 an_8 cd_8 ct_8), sl_8⟩) (c__law_next : PySem.W.codeIn K cd_8 "_law_next" = true) (k__law_next : PySem.W.keepIn K (.ref f_8) = true)
    (a__law_common : PySem.W.nsIn K mainGlobals "_law_common" = some (some (.ref f_9))) (l__law_common : K.lookup f_9 = some ⟨oc_9, od_9, .func (PySem.W.fnOf "_law_common" "_law_common" (defArgs st__law_common) (defBody st__law_common) (defScope st__law_common) .none kV_9 dc_9 pm_9 an_9 cd_9 ct_9), sl_9⟩) (c__law_common : PySem.W.codeIn K cd_9 "_law_common" = true) (k__law_common : PySem.W.keepIn K (.ref f_9) = true)
    (a_need_number : PySem.W.nsIn K mainGlobals "need_number" = some (some (.ref f_10))) (l_need_number : K.lookup f_10 = some ⟨oc_10, od_10, .func (PySem.W.fnOf "need_number" "need_number" (defArgs st_need_number) (defBody st_need_number) (defScope st_need_number) .none kV_10 dc_10 pm_10 an_10 cd_10 ct_10), sl_10⟩) (c_need_number : PySem.W.codeIn K cd_10 "need_number" = true) (k_need_number : PySem.W.keepIn K (.ref f_10) = true)
    (a_need_shuffle : PySem.W.nsIn K mainGlobals "need_shuffle" = some (some (.ref f_11))) (l_need_shuffle : K.lookup f_11 = some ⟨oc_11, od_11, .func (PySem.W.fnOf "need_shuffle" "need_shuffle" (defArgs st_need_shuffle) (defBody st_need_shuffle) (defScope st_need_shuffle) .none kV_11 dc_11 pm_11 an_11 cd_11 ct_11), sl_11⟩) (c_need_shuffle : PySem.W.codeIn K cd_11 "need_shuffle" = true) (k_need_shuffle : PySem.W.keepIn K (.ref f_11) = true)
    (a_is_size : PySem.W.nsIn K mainGlobals "is_size" = some (some (.ref f_12))) (l_is_size : K.lookup f_12 = some ⟨oc_12, od_12, .func (PySem.W.fnOf "is_size" "is_size" (defArgs st_is_size) (defBody st_is_size) (defScope st_is_size) .none kV_12 dc_12 pm_12 an_12 cd_12 ct_12), sl_12⟩) (c_is_size : PySem.W.codeIn K cd_12 "is_size" = true) (k_is_size : PySem.W.keepIn K (.ref f_12) = true)
    (a__led : PySem.W.nsIn K mainGlobals "_led" = some (some (.ref f_13))) (l__led : K.lookup f_13 = some ⟨oc_13, od_13, .func (PySem.W.fnOf "_led" "_led" (defArgs st__led) (defBody st__led) (defScope st__led) .none kV_13 dc_13 pm_13 an_13 cd_13 ct_13), sl_13⟩) (c__led : PySem.W.codeIn K cd_13 "_led" = true) (k__led : PySem.W.keepIn K (.ref f_13) = true)
    (a__law_pick : PySem.W.nsIn K mainGlobals "_law_pick" = some (some (.ref f_14))) (l__law_pick : K.lookup f_14 = some ⟨oc_14, od_14, .func (PySem.W.fnOf "_law_pick" "_law_pick" (defArgs st__law_pick) (defBody st__law_pick) (defScope st__law_pick) .none kV_14 dc_14 pm_14 an_14 cd_14 ct_14), sl_14⟩) (c__law_pick : PySem.W.codeIn K cd_14 "_law_pick" = true) (k__law_pick : PySem.W.keepIn K (.ref f_14) = true)
    (a__law_tent : PySem.W.nsIn K mainGlobals "_law_tent" = some (some (.ref f_15))) (l__law_tent : K.lookup f_15 = some ⟨oc_15, od_15, .func (PySem.W.fnOf "_law_tent" "_law_tent" (defArgs st__law_tent) (defBody st__law_tent) (defScope st__law_tent) .none kV_15 dc_15 pm_15 an_15 cd_15 ct_15), sl_15⟩) (c__law_tent : PySem.W.codeIn K cd_15 "_law_tent" = true) (k__law_tent : PySem.W.keepIn K (.ref f_15) = true)
    (a__law_loops : PySem.W.nsIn K mainGlobals "_law_loops" = some (some (.ref f_16))) (l__law_loops : K.lookup f_16 = some ⟨oc_16, od_16, .func (PySem.W.fnOf "_law_loops" "_law_loops" (defArgs st__law_loops) (defBody st__law_loops) (defScope st__law_loops) .none kV_16 dc_16 pm_16 an_16 cd_16 ct_16), sl_16⟩) (c__law_loops : PySem.W.codeIn K cd_16 "_law_loops" = true) (k__law_loops : PySem.W.keepIn K (.ref f_16) = true)
    (a_need_size : PySem.W.nsIn K mainGlobals "need_size" = some (some (.ref f_17))) (l_need_size : K.lookup f_17 = some ⟨oc_17, od_17, .func (PySem.W.fnOf "need_size" "need_size" (defArgs st_need_size) (defBody st_need_size) (defScope st_need_size) .none kV_17 dc_17 pm_17 an_17 cd_17 ct_17), sl_17⟩) (c_need_size : PySem.W.codeIn K cd_17 "need_size" = true) (k_need_size : PySem.W.keepIn K (.ref f_17) = true)
    (a_place_after : PySem.W.nsIn K mainGlobals "place_after" = some (some (.ref f_18))) (l_place_after : K.lookup f_18 = some ⟨oc_18, od_18, .func (PySem.W.fnOf "place_after" "place_after" (defArgs st_place_after) (defBody st_place_after) (defScope st_place_after) .none kV_18 dc_18 pm_18 an_18 cd_18 ct_18), sl_18⟩) (c_place_after : PySem.W.codeIn K cd_18 "place_after" = true) (k_place_after : PySem.W.keepIn K (.ref f_18) = true)
    (a_order_of : PySem.W.nsIn K mainGlobals "order_of" = some (some (.ref f_19))) (l_order_of : K.lookup f_19 = some ⟨oc_19, od_19, .func (PySem.W.fnOf "order_of" "order_of" (defArgs st_order_of) (defBody st_order_of) (defScope st_order_of) .none kV_19 dc_19 pm_19 an_19 cd_19 ct_19), sl_19⟩) (c_order_of : PySem.W.codeIn K cd_19 "order_of" = true) (k_order_of : PySem.W.keepIn K (.ref f_19) = true)
    (a_deck_after : PySem.W.nsIn K mainGlobals "deck_after" = some (some (.ref f_20))) (l_deck_after : K.lookup f_20 = some ⟨oc_20, od_20, .func (PySem.W.fnOf "deck_after" "deck_after" (defArgs st_deck_after) (defBody st_deck_after) (defScope st_deck_after) .none kV_20 dc_20 pm_20 an_20 cd_20 ct_20), sl_20⟩) (c_deck_after : PySem.W.codeIn K cd_20 "deck_after" = true) (k_deck_after : PySem.W.keepIn K (.ref f_20) = true)
    (a_loops : PySem.W.nsIn K mainGlobals "loops" = some (some (.ref f_21))) (l_loops : K.lookup f_21 = some ⟨oc_21, od_21, .func (PySem.W.fnOf "loops" "loops" (defArgs st_loops) (defBody st_loops) (defScope st_loops) .none kV_21 dc_21 pm_21 an_21 cd_21 ct_21), sl_21⟩) (c_loops : PySem.W.codeIn K cd_21 "loops" = true) (k_loops : PySem.W.keepIn K (.ref f_21) = true)
    (a_row_to : PySem.W.nsIn K mainGlobals "row_to" = some (some (.ref f_22))) (l_row_to : K.lookup f_22 = some ⟨oc_22, od_22, .func (PySem.W.fnOf "row_to" "row_to" (defArgs st_row_to) (defBody st_row_to) (defScope st_row_to) .none kV_22 dc_22 pm_22 an_22 cd_22 ct_22), sl_22⟩) (c_row_to : PySem.W.codeIn K cd_22 "row_to" = true) (k_row_to : PySem.W.keepIn K (.ref f_22) = true)
    (a__law_small_right : PySem.W.nsIn K mainGlobals "_law_small_right" = some (some (.ref f_23))) (l__law_small_right : K.lookup f_23 = some ⟨oc_23, od_23, .func (PySem.W.fnOf "_law_small_right" "_law_small_right" (defArgs st__law_small_right) (defBody st__law_small_right) (defScope st__law_small_right) .none kV_23 dc_23 pm_23 an_23 cd_23 ct_23), sl_23⟩) (c__law_small_right : PySem.W.codeIn K cd_23 "_law_small_right" = true) (k__law_small_right : PySem.W.keepIn K (.ref f_23) = true)
    (a__law_row_right : PySem.W.nsIn K mainGlobals "_law_row_right" = some (some (.ref f_24))) (l__law_row_right : K.lookup f_24 = some ⟨oc_24, od_24, .func (PySem.W.fnOf "_law_row_right" "_law_row_right" (defArgs st__law_row_right) (defBody st__law_row_right) (defScope st__law_row_right) .none kV_24 dc_24 pm_24 an_24 cd_24 ct_24), sl_24⟩) (c__law_row_right : PySem.W.codeIn K cd_24 "_law_row_right" = true) (k__law_row_right : PySem.W.keepIn K (.ref f_24) = true)
    (a__law_great_right : PySem.W.nsIn K mainGlobals "_law_great_right" = some (some (.ref f_25))) (l__law_great_right : K.lookup f_25 = some ⟨oc_25, od_25, .func (PySem.W.fnOf "_law_great_right" "_law_great_right" (defArgs st__law_great_right) (defBody st__law_great_right) (defScope st__law_great_right) .none kV_25 dc_25 pm_25 an_25 cd_25 ct_25), sl_25⟩) (c__law_great_right : PySem.W.codeIn K cd_25 "_law_great_right" = true) (k__law_great_right : PySem.W.keepIn K (.ref f_25) = true)
    (a__law_right : PySem.W.nsIn K mainGlobals "_law_right" = some (some (.ref f_26))) (l__law_right : K.lookup f_26 = some ⟨oc_26, od_26, .func (PySem.W.fnOf "_law_right" "_law_right" (defArgs st__law_right) (defBody st__law_right) (defScope st__law_right) .none kV_26 dc_26 pm_26 an_26 cd_26 ct_26), sl_26⟩) (c__law_right : PySem.W.codeIn K cd_26 "_law_right" = true) (k__law_right : PySem.W.keepIn K (.ref f_26) = true)
    (a_law : PySem.W.nsIn K mainGlobals "law" = some (some (.ref f_27))) (l_law : K.lookup f_27 = some ⟨oc_27, od_27, .func (PySem.W.fnOf "law" "law" (defArgs st_law) (defBody st_law) (defScope st_law) .none kV_27 dc_27 pm_27 an_27 cd_27 ct_27), sl_27⟩) (c_law : PySem.W.codeIn K cd_27 "law" = true) (k_law : PySem.W.keepIn K (.ref f_27) = true)
    (z_abs : PySem.W.nsIn K mainGlobals "abs" = some none)
    (z_all : PySem.W.nsIn K mainGlobals "all" = some none)
    (z_divmod : PySem.W.nsIn K mainGlobals "divmod" = some none)
    (z_int : PySem.W.nsIn K mainGlobals "int" = some none)
    (z_len : PySem.W.nsIn K mainGlobals "len" = some none)
    (z_max : PySem.W.nsIn K mainGlobals "max" = some none)
    (z_min : PySem.W.nsIn K mainGlobals "min" = some none)
    (z_range : PySem.W.nsIn K mainGlobals "range" = some none)
    (z_sorted : PySem.W.nsIn K mainGlobals "sorted" = some none)
    (z_str : PySem.W.nsIn K mainGlobals "str" = some none)
    (z_tuple : PySem.W.nsIn K mainGlobals "tuple" = some none)
    (z_type : PySem.W.nsIn K mainGlobals "type" = some none)
    (z_MOST_DECK : PySem.W.nsIn K mainGlobals "MOST_DECK" = some (some (.int 1000000 t_MOST_DECK)))
    (z__MOST_LISTED : PySem.W.nsIn K mainGlobals "_MOST_LISTED" = some (some (.int 1000 t__MOST_LISTED)))
    (z__MOST_TIMES : PySem.W.nsIn K mainGlobals "_MOST_TIMES" = some (some (.int 1000000000000000000000000000000 t__MOST_TIMES)))
    (z__SHUFFLES : PySem.W.nsIn K mainGlobals "_SHUFFLES" = some (some (.ref tu__SHUFFLES))) (y__SHUFFLES : K.lookup tu__SHUFFLES = some ⟨.type "tuple", odt__SHUFFLES, .seq #[.str ⟨#[111, 117, 116]⟩ tk__SHUFFLES_0, .str ⟨#[105, 110]⟩ tk__SHUFFLES_1, .str ⟨#[102, 111, 108, 100]⟩ tk__SHUFFLES_2] nt__SHUFFLES, slt__SHUFFLES⟩)
    : ∃ fd : FuncData, (∀ (s : Shared) (u : Value), BindsTo s fd ⟨[u], []⟩ [("script", u)]) ∧ ∀ base : Heap, K.In base → base.Ns mainGlobals mg → DefOk P w ⟨K, mg⟩ base 7 fa fd ["script"] R_law := by
  have e := hfa.symm.trans (PySem.W.mg_of X G a_law)
  cases e
  have T : Glob K mg := ⟨PySem.W.mg_none_of X G z_abs, PySem.W.mg_none_of X G z_all, PySem.W.mg_none_of X G z_divmod, PySem.W.mg_none_of X G z_int, PySem.W.mg_none_of X G z_len, PySem.W.mg_none_of X G z_max, PySem.W.mg_none_of X G z_min, PySem.W.mg_none_of X G z_range, PySem.W.mg_none_of X G z_sorted, PySem.W.mg_none_of X G z_str, PySem.W.mg_none_of X G z_tuple, PySem.W.mg_none_of X G z_type, ⟨_, PySem.W.mg_of X G z_MOST_DECK⟩, ⟨_, PySem.W.mg_of X G z__MOST_LISTED⟩, ⟨_, PySem.W.mg_of X G z__MOST_TIMES⟩, ⟨_, PySem.W.mg_of X G z__SHUFFLES, fun H => sqT_known y__SHUFFLES (show (3 : Nat) ≤ sizeLine by rw [line_eq]; omega) (.cons ⟨_, rfl⟩ (.cons ⟨_, rfl⟩ (.cons ⟨_, rfl⟩ (.nil))))⟩⟩
  refine ⟨PySem.W.fnOf "law" "law" (defArgs st_law) (defBody st_law) (defScope st_law) .none kV_27 dc_27 pm_27 an_27 cd_27 ct_27, fun s u => .of_eq rfl, fun base _ _ => ?_⟩
  have RR_is_within : Gfn P w ⟨K, mg⟩ base 1 "is_within" st_is_within ["value", "least", "most"] R_is_within := ⟨⟨_, _, PySem.W.mg_of X G a_is_within, k_is_within, d_is_within T  l_is_within c_is_within, fun us kw r e s => .of_eq (e _ _ _ _ _ _)⟩⟩
  have GG_is_within : Gfn P w ⟨K, mg⟩ base 1 "is_within" st_is_within ["value", "least", "most"] G_is_within := RR_is_within.pure
  have RR_is_shuffle : Gfn P w ⟨K, mg⟩ base 1 "is_shuffle" st_is_shuffle ["value"] R_is_shuffle := ⟨⟨_, _, PySem.W.mg_of X G a_is_shuffle, k_is_shuffle, d_is_shuffle T  l_is_shuffle c_is_shuffle, fun us kw r e s => .of_eq (e _ _ _ _ _ _)⟩⟩
  have GG_is_shuffle : Gfn P w ⟨K, mg⟩ base 1 "is_shuffle" st_is_shuffle ["value"] G_is_shuffle := RR_is_shuffle.pure
  have RR__need_few : Gfn P w ⟨K, mg⟩ base 1 "_need_few" st__need_few ["size"] R__need_few := ⟨⟨_, _, PySem.W.mg_of X G a__need_few, k__need_few, d__need_few T  l__need_few c__need_few, fun us kw r e s => .of_eq (e _ _ _ _ _ _)⟩⟩
  have GG__need_few : Gfn P w ⟨K, mg⟩ base 1 "_need_few" st__need_few ["size"] G__need_few := RR__need_few.pure
  have RR__modulus : Gfn P w ⟨K, mg⟩ base 1 "_modulus" st__modulus ["shuffle", "size"] R__modulus := ⟨⟨_, _, PySem.W.mg_of X G a__modulus, k__modulus, d__modulus T  l__modulus c__modulus, fun us kw r e s => .of_eq (e _ _ _ _ _ _)⟩⟩
  have GG__modulus : Gfn P w ⟨K, mg⟩ base 1 "_modulus" st__modulus ["shuffle", "size"] G__modulus := RR__modulus.pure
  have RR__power_of_two : Gfn P w ⟨K, mg⟩ base 1 "_power_of_two" st__power_of_two ["exponent", "modulus"] R__power_of_two := ⟨⟨_, _, PySem.W.mg_of X G a__power_of_two, k__power_of_two, d__power_of_two T  l__power_of_two c__power_of_two, fun us kw r e s => .of_eq (e _ _ _ _ _ _)⟩⟩
  have GG__power_of_two : Gfn P w ⟨K, mg⟩ base 1 "_power_of_two" st__power_of_two ["exponent", "modulus"] G__power_of_two := RR__power_of_two.pure
  have RR__law_jar : Gfn P w ⟨K, mg⟩ base 1 "_law_jar" st__law_jar ["script", "turn"] R__law_jar := ⟨⟨_, _, PySem.W.mg_of X G a__law_jar, k__law_jar, d__law_jar T  l__law_jar c__law_jar, fun us kw r e s => .of_eq (e _ _ _ _ _ _)⟩⟩
  have GG__law_jar : Gfn P w ⟨K, mg⟩ base 1 "_law_jar" st__law_jar ["script", "turn"] G__law_jar := RR__law_jar.pure
  have RR__law_dip : Gfn P w ⟨K, mg⟩ base 1 "_law_dip" st__law_dip ["jar", "many"] R__law_dip := ⟨⟨_, _, PySem.W.mg_of X G a__law_dip, k__law_dip, d__law_dip T  l__law_dip c__law_dip, fun us kw r e s => .of_eq (e _ _ _ _ _ _)⟩⟩
  have GG__law_dip : Gfn P w ⟨K, mg⟩ base 1 "_law_dip" st__law_dip ["jar", "many"] G__law_dip := RR__law_dip.to g__law_dip
  have RR__law_lean : Gfn P w ⟨K, mg⟩ base 1 "_law_lean" st__law_lean ["top", "bottom"] R__law_lean := ⟨⟨_, _, PySem.W.mg_of X G a__law_lean, k__law_lean, d__law_lean T  l__law_lean c__law_lean, fun us kw r e s => .of_eq (e _ _ _ _ _ _)⟩⟩
  have GG__law_lean : Gfn P w ⟨K, mg⟩ base 1 "_law_lean" st__law_lean ["top", "bottom"] G__law_lean := RR__law_lean.pure
  have RR__law_next : Gfn P w ⟨K, mg⟩ base 1 "_law_next" st__law_next ["word", "size_here", "p"] R__law_next := ⟨⟨_, _, PySem.W.mg_of X G a__law_next, k__law_next, d__law_next T  l__law_next c__law_next, fun us kw r e s => .of_eq (e _ _ _ _ _ _)⟩⟩
  have GG__law_next : Gfn P w ⟨K, mg⟩ base 1 "_law_next" st__law_next ["word", "size_here", "p"] G__law_next := RR__law_next.pure
  have RR__law_common : Gfn P w ⟨K, mg⟩ base 1 "_law_common" st__law_common ["one", "two"] R__law_common := ⟨⟨_, _, PySem.W.mg_of X G a__law_common, k__law_common, d__law_common T  l__law_common c__law_common, fun us kw r e s => .of_eq (e _ _ _ _ _ _)⟩⟩
  have GG__law_common : Gfn P w ⟨K, mg⟩ base 1 "_law_common" st__law_common ["one", "two"] G__law_common := RR__law_common.pure
  have RR_need_number : Gfn P w ⟨K, mg⟩ base 2 "need_number" st_need_number ["value", "least", "most"] R_need_number := ⟨⟨_, _, PySem.W.mg_of X G a_need_number, k_need_number, d_need_number T GG_is_within l_need_number c_need_number, fun us kw r e s => .of_eq (e _ _ _ _ _ _)⟩⟩
  have GG_need_number : Gfn P w ⟨K, mg⟩ base 2 "need_number" st_need_number ["value", "least", "most"] G_need_number := RR_need_number.pure
  have RR_need_shuffle : Gfn P w ⟨K, mg⟩ base 2 "need_shuffle" st_need_shuffle ["value"] R_need_shuffle := ⟨⟨_, _, PySem.W.mg_of X G a_need_shuffle, k_need_shuffle, d_need_shuffle T GG_is_shuffle l_need_shuffle c_need_shuffle, fun us kw r e s => .of_eq (e _ _ _ _ _ _)⟩⟩
  have GG_need_shuffle : Gfn P w ⟨K, mg⟩ base 2 "need_shuffle" st_need_shuffle ["value"] G_need_shuffle := RR_need_shuffle.pure
  have RR_is_size : Gfn P w ⟨K, mg⟩ base 2 "is_size" st_is_size ["value"] R_is_size := ⟨⟨_, _, PySem.W.mg_of X G a_is_size, k_is_size, d_is_size T GG_is_within l_is_size c_is_size, fun us kw r e s => .of_eq (e _ _ _ _ _ _)⟩⟩
  have GG_is_size : Gfn P w ⟨K, mg⟩ base 2 "is_size" st_is_size ["value"] G_is_size := RR_is_size.pure
  have RR__led : Gfn P w ⟨K, mg⟩ base 2 "_led" st__led ["shuffle", "size", "place", "power"] R__led := ⟨⟨_, _, PySem.W.mg_of X G a__led, k__led, d__led T GG__modulus l__led c__led, fun us kw r e s => .of_eq (e _ _ _ _ _ _)⟩⟩
  have GG__led : Gfn P w ⟨K, mg⟩ base 2 "_led" st__led ["shuffle", "size", "place", "power"] G__led := RR__led.pure
  have RR__law_pick : Gfn P w ⟨K, mg⟩ base 2 "_law_pick" st__law_pick ["jar", "some"] R__law_pick := ⟨⟨_, _, PySem.W.mg_of X G a__law_pick, k__law_pick, d__law_pick T GG__law_dip l__law_pick c__law_pick, fun us kw r e s => .of_eq (e _ _ _ _ _ _)⟩⟩
  have GG__law_pick : Gfn P w ⟨K, mg⟩ base 2 "_law_pick" st__law_pick ["jar", "some"] G__law_pick := RR__law_pick.to g__law_pick
  have RR__law_tent : Gfn P w ⟨K, mg⟩ base 2 "_law_tent" st__law_tent ["place"] R__law_tent := ⟨⟨_, _, PySem.W.mg_of X G a__law_tent, k__law_tent, d__law_tent T GG__law_lean l__law_tent c__law_tent, fun us kw r e s => .of_eq (e _ _ _ _ _ _)⟩⟩
  have GG__law_tent : Gfn P w ⟨K, mg⟩ base 2 "_law_tent" st__law_tent ["place"] G__law_tent := RR__law_tent.pure
  have RR__law_loops : Gfn P w ⟨K, mg⟩ base 2 "_law_loops" st__law_loops ["word", "size_here"] R__law_loops := ⟨⟨_, _, PySem.W.mg_of X G a__law_loops, k__law_loops, d__law_loops T GG__law_next l__law_loops c__law_loops, fun us kw r e s => .of_eq (e _ _ _ _ _ _)⟩⟩
  have GG__law_loops : Gfn P w ⟨K, mg⟩ base 2 "_law_loops" st__law_loops ["word", "size_here"] G__law_loops := RR__law_loops.pure
  have RR_need_size : Gfn P w ⟨K, mg⟩ base 3 "need_size" st_need_size ["value"] R_need_size := ⟨⟨_, _, PySem.W.mg_of X G a_need_size, k_need_size, d_need_size T GG_is_size l_need_size c_need_size, fun us kw r e s => .of_eq (e _ _ _ _ _ _)⟩⟩
  have GG_need_size : Gfn P w ⟨K, mg⟩ base 3 "need_size" st_need_size ["value"] G_need_size := RR_need_size.pure
  have RR_place_after : Gfn P w ⟨K, mg⟩ base 4 "place_after" st_place_after ["shuffle", "size", "number", "times"] R_place_after := ⟨⟨_, _, PySem.W.mg_of X G a_place_after, k_place_after, d_place_after T GG__led GG__modulus GG__power_of_two GG_need_number GG_need_shuffle GG_need_size l_place_after c_place_after, fun us kw r e s => .of_eq (e _ _ _ _ _ _)⟩⟩
  have GG_place_after : Gfn P w ⟨K, mg⟩ base 4 "place_after" st_place_after ["shuffle", "size", "number", "times"] G_place_after := RR_place_after.pure
  have RR_order_of : Gfn P w ⟨K, mg⟩ base 4 "order_of" st_order_of ["shuffle", "size"] R_order_of := ⟨⟨_, _, PySem.W.mg_of X G a_order_of, k_order_of, d_order_of T GG__modulus GG_need_shuffle GG_need_size l_order_of c_order_of, fun us kw r e s => .of_eq (e _ _ _ _ _ _)⟩⟩
  have GG_order_of : Gfn P w ⟨K, mg⟩ base 4 "order_of" st_order_of ["shuffle", "size"] G_order_of := RR_order_of.pure
  have RR_deck_after : Gfn P w ⟨K, mg⟩ base 4 "deck_after" st_deck_after ["shuffle", "size", "times"] R_deck_after := ⟨⟨_, _, PySem.W.mg_of X G a_deck_after, k_deck_after, d_deck_after T GG__led GG__modulus GG__need_few GG__power_of_two GG_need_number GG_need_shuffle GG_need_size l_deck_after c_deck_after, fun us kw r e s => .of_eq (e _ _ _ _ _ _)⟩⟩
  have GG_deck_after : Gfn P w ⟨K, mg⟩ base 4 "deck_after" st_deck_after ["shuffle", "size", "times"] G_deck_after := RR_deck_after.pure
  have RR_loops : Gfn P w ⟨K, mg⟩ base 4 "loops" st_loops ["shuffle", "size"] R_loops := ⟨⟨_, _, PySem.W.mg_of X G a_loops, k_loops, d_loops T GG__led GG__need_few GG_need_shuffle GG_need_size l_loops c_loops, fun us kw r e s => .of_eq (e _ _ _ _ _ _)⟩⟩
  have GG_loops : Gfn P w ⟨K, mg⟩ base 4 "loops" st_loops ["shuffle", "size"] G_loops := RR_loops.pure
  have RR_row_to : Gfn P w ⟨K, mg⟩ base 4 "row_to" st_row_to ["size", "number"] R_row_to := ⟨⟨_, _, PySem.W.mg_of X G a_row_to, k_row_to, d_row_to T GG_need_number GG_need_size l_row_to c_row_to, fun us kw r e s => .of_eq (e _ _ _ _ _ _)⟩⟩
  have GG_row_to : Gfn P w ⟨K, mg⟩ base 4 "row_to" st_row_to ["size", "number"] G_row_to := RR_row_to.pure
  have RR__law_small_right : Gfn P w ⟨K, mg⟩ base 5 "_law_small_right" st__law_small_right ["jar", "word", "size_here"] R__law_small_right := ⟨⟨_, _, PySem.W.mg_of X G a__law_small_right, k__law_small_right, d__law_small_right T GG__law_common GG__law_dip GG__law_loops GG__law_next GG_deck_after GG_loops GG_order_of GG_place_after l__law_small_right c__law_small_right, fun us kw r e s => .of_eq (e _ _ _ _ _ _)⟩⟩
  have GG__law_small_right : Gfn P w ⟨K, mg⟩ base 5 "_law_small_right" st__law_small_right ["jar", "word", "size_here"] G__law_small_right := RR__law_small_right.to g__law_small_right
  have RR__law_row_right : Gfn P w ⟨K, mg⟩ base 5 "_law_row_right" st__law_row_right ["size_here", "goal"] R__law_row_right := ⟨⟨_, _, PySem.W.mg_of X G a__law_row_right, k__law_row_right, d__law_row_right T GG__law_next GG_row_to l__law_row_right c__law_row_right, fun us kw r e s => .of_eq (e _ _ _ _ _ _)⟩⟩
  have GG__law_row_right : Gfn P w ⟨K, mg⟩ base 5 "_law_row_right" st__law_row_right ["size_here", "goal"] G__law_row_right := RR__law_row_right.pure
  have RR__law_great_right : Gfn P w ⟨K, mg⟩ base 5 "_law_great_right" st__law_great_right ["jar"] R__law_great_right := ⟨⟨_, _, PySem.W.mg_of X G a__law_great_right, k__law_great_right, d__law_great_right T GG__law_dip GG__law_next GG__law_pick GG_order_of GG_place_after l__law_great_right c__law_great_right, fun us kw r e s => .of_eq (e _ _ _ _ _ _)⟩⟩
  have GG__law_great_right : Gfn P w ⟨K, mg⟩ base 5 "_law_great_right" st__law_great_right ["jar"] G__law_great_right := RR__law_great_right.to g__law_great_right
  have RR__law_right : Gfn P w ⟨K, mg⟩ base 6 "_law_right" st__law_right ["jar"] R__law_right := ⟨⟨_, _, PySem.W.mg_of X G a__law_right, k__law_right, d__law_right T GG__law_dip GG__law_great_right GG__law_lean GG__law_pick GG__law_row_right GG__law_small_right GG__law_tent GG_place_after l__law_right c__law_right, fun us kw r e s => .of_eq (e _ _ _ _ _ _)⟩⟩
  have GG__law_right : Gfn P w ⟨K, mg⟩ base 6 "_law_right" st__law_right ["jar"] G__law_right := RR__law_right.to g__law_right
  exact d_law T GG__law_jar GG__law_right l_law c_law
end
end Lawk98

open PySem PySem.W PyProof.Rows in
set_option maxRecDepth 100000 in
set_option maxHeartbeats 0 in
theorem PySem.Challenge.cw_foldworld_k98_whole_decks_and_raisins_holds : PySem.Challenge.rw_foldworld_k98_whole_decks_and_raisins.Holds := by
  w_on; o_law; k_head; (case hw => w_witness2)
  k_fill
  refine Fw.law_end (l := PySem.Challenge.rw_foldworld_k98_whole_decks_and_raisins) (n := 63) (k := 7) (x := "script") (F := Lawk98.R_law) rfl (by decide) rfl ⟨rfl, by decide, by decide⟩ (fun w h Y => PySem.W.kIn_of Y) ?D Lawk98.law_true
  case D =>
    intro w mg fa h KX G hmg
    refine' Lawk98.all_mk KX G hmg ?a_is_within ?l_is_within ?c_is_within ?k_is_within ?a_is_shuffle ?l_is_shuffle ?c_is_shuffle ?k_is_shuffle ?a__need_few ?l__need_few ?c__need_few ?k__need_few ?a__modulus ?l__modulus ?c__modulus ?k__modulus ?a__power_of_two ?l__power_of_two ?c__power_of_two ?k__power_of_two ?a__law_jar ?l__law_jar ?c__law_jar ?k__law_jar ?a__law_dip ?l__law_dip ?c__law_dip ?k__law_dip ?a__law_lean ?l__law_lean ?c__law_lean ?k__law_lean ?a__law_next ?l__law_next ?c__law_next ?k__law_next ?a__law_common ?l__law_common ?c__law_common ?k__law_common ?a_need_number ?l_need_number ?c_need_number ?k_need_number ?a_need_shuffle ?l_need_shuffle ?c_need_shuffle ?k_need_shuffle ?a_is_size ?l_is_size ?c_is_size ?k_is_size ?a__led ?l__led ?c__led ?k__led ?a__law_pick ?l__law_pick ?c__law_pick ?k__law_pick ?a__law_tent ?l__law_tent ?c__law_tent ?k__law_tent ?a__law_loops ?l__law_loops ?c__law_loops ?k__law_loops ?a_need_size ?l_need_size ?c_need_size ?k_need_size ?a_place_after ?l_place_after ?c_place_after ?k_place_after ?a_order_of ?l_order_of ?c_order_of ?k_order_of ?a_deck_after ?l_deck_after ?c_deck_after ?k_deck_after ?a_loops ?l_loops ?c_loops ?k_loops ?a_row_to ?l_row_to ?c_row_to ?k_row_to ?a__law_small_right ?l__law_small_right ?c__law_small_right ?k__law_small_right ?a__law_row_right ?l__law_row_right ?c__law_row_right ?k__law_row_right ?a__law_great_right ?l__law_great_right ?c__law_great_right ?k__law_great_right ?a__law_right ?l__law_right ?c__law_right ?k__law_right ?a_law ?l_law ?c_law ?k_law ?z_abs ?z_all ?z_divmod ?z_int ?z_len ?z_max ?z_min ?z_range ?z_sorted ?z_str ?z_tuple ?z_type ?z_MOST_DECK ?z__MOST_LISTED ?z__MOST_TIMES ?z__SHUFFLES ?y__SHUFFLES
    (case a_is_within => k_is)
    (case l_is_within => k_is)
    (case c_is_within => k_is)
    (case k_is_within => k_is)
    (case a_is_shuffle => k_is)
    (case l_is_shuffle => k_is)
    (case c_is_shuffle => k_is)
    (case k_is_shuffle => k_is)
    (case a__need_few => k_is)
    (case l__need_few => k_is)
    (case c__need_few => k_is)
    (case k__need_few => k_is)
    (case a__modulus => k_is)
    (case l__modulus => k_is)
    (case c__modulus => k_is)
    (case k__modulus => k_is)
    (case a__power_of_two => k_is)
    (case l__power_of_two => k_is)
    (case c__power_of_two => k_is)
    (case k__power_of_two => k_is)
    (case a__law_jar => k_is)
    (case l__law_jar => k_is)
    (case c__law_jar => k_is)
    (case k__law_jar => k_is)
    (case a__law_dip => k_is)
    (case l__law_dip => k_is)
    (case c__law_dip => k_is)
    (case k__law_dip => k_is)
    (case a__law_lean => k_is)
    (case l__law_lean => k_is)
    (case c__law_lean => k_is)
    (case k__law_lean => k_is)
    (case a__law_next => k_is)
    (case l__law_next => k_is)
    (case c__law_next => k_is)
    (case k__law_next => k_is)
    (case a__law_common => k_is)
    (case l__law_common => k_is)
    (case c__law_common => k_is)
    (case k__law_common => k_is)
    (case a_need_number => k_is)
    (case l_need_number => k_is)
    (case c_need_number => k_is)
    (case k_need_number => k_is)
    (case a_need_shuffle => k_is)
    (case l_need_shuffle => k_is)
    (case c_need_shuffle => k_is)
    (case k_need_shuffle => k_is)
    (case a_is_size => k_is)
    (case l_is_size => k_is)
    (case c_is_size => k_is)
    (case k_is_size => k_is)
    (case a__led => k_is)
    (case l__led => k_is)
    (case c__led => k_is)
    (case k__led => k_is)
    (case a__law_pick => k_is)
    (case l__law_pick => k_is)
    (case c__law_pick => k_is)
    (case k__law_pick => k_is)
    (case a__law_tent => k_is)
    (case l__law_tent => k_is)
    (case c__law_tent => k_is)
    (case k__law_tent => k_is)
    (case a__law_loops => k_is)
    (case l__law_loops => k_is)
    (case c__law_loops => k_is)
    (case k__law_loops => k_is)
    (case a_need_size => k_is)
    (case l_need_size => k_is)
    (case c_need_size => k_is)
    (case k_need_size => k_is)
    (case a_place_after => k_is)
    (case l_place_after => k_is)
    (case c_place_after => k_is)
    (case k_place_after => k_is)
    (case a_order_of => k_is)
    (case l_order_of => k_is)
    (case c_order_of => k_is)
    (case k_order_of => k_is)
    (case a_deck_after => k_is)
    (case l_deck_after => k_is)
    (case c_deck_after => k_is)
    (case k_deck_after => k_is)
    (case a_loops => k_is)
    (case l_loops => k_is)
    (case c_loops => k_is)
    (case k_loops => k_is)
    (case a_row_to => k_is)
    (case l_row_to => k_is)
    (case c_row_to => k_is)
    (case k_row_to => k_is)
    (case a__law_small_right => k_is)
    (case l__law_small_right => k_is)
    (case c__law_small_right => k_is)
    (case k__law_small_right => k_is)
    (case a__law_row_right => k_is)
    (case l__law_row_right => k_is)
    (case c__law_row_right => k_is)
    (case k__law_row_right => k_is)
    (case a__law_great_right => k_is)
    (case l__law_great_right => k_is)
    (case c__law_great_right => k_is)
    (case k__law_great_right => k_is)
    (case a__law_right => k_is)
    (case l__law_right => k_is)
    (case c__law_right => k_is)
    (case k__law_right => k_is)
    (case a_law => k_is)
    (case l_law => k_is)
    (case c_law => k_is)
    (case k_law => k_is)
    (case z_abs => k_is)
    (case z_all => k_is)
    (case z_divmod => k_is)
    (case z_int => k_is)
    (case z_len => k_is)
    (case z_max => k_is)
    (case z_min => k_is)
    (case z_range => k_is)
    (case z_sorted => k_is)
    (case z_str => k_is)
    (case z_tuple => k_is)
    (case z_type => k_is)
    (case z_MOST_DECK => k_is)
    (case z__MOST_LISTED => k_is)
    (case z__MOST_TIMES => k_is)
    (case z__SHUFFLES => k_is)
    (case y__SHUFFLES => k_is)
