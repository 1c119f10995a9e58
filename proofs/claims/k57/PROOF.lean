import PyProof.Rows.All
import Wide.All
import OpenK.AllK
import Wide.FinOn
import HandS.ForMost
import HandS.Exc
import HandS.ExcOwn
import HandS.CallSlots
import HandS.Zip
import HandS.Wide
import HandS.SortInts
import HandS.Style
import HandS.NoneIn
import HandS.More
import HandS.WordsExc
import HandS.Gcd
import KE.KRevSl
import HandS.Iter
import KE.GoesMore
import HandS.Dict
import HandS.SortRule
import HandS.Deep
import HandS.TupMul
import HandS.WideBits
import PyProof.StrBlock2
import HandS.Conv
import HandS.TupAny
import HandS.StrMore
import HandS.Strs
import KE.KSortTupG
import PySem.Challenge.RW_foldworld_k57_whole_rows_to_places
set_option Elab.async false
set_option linter.all false
set_option maxRecDepth 100000
set_option maxHeartbeats 2000000
set_option autoImplicit false
namespace Fw
open PySem PySem.Spec L2

/-- values by content: tuples by value, lists by place -/
inductive Va where
  | non | bl (b : Bool) | int (i : Int) | str (x : List Nat) | tup (xs : List Va) | ros (xs : List Va) | loc (n : Nat) | fn (x : Str) | ty (n : String) | rg (i j c : Int)
abbrev En := List (Option Va)
inductive Ob where
  | lst (xs : List Va)
  | dct (kvs : List (Va × Va))
abbrev Hs := List Ob
structure Xn where
  cls : Str
  fs : List (Str × Va)
inductive Rs (α : Type) where
  | ok (a : α) (h : Hs) | ex (x : Xn) (h : Hs) | bad
inductive Rt where
  | nx (e : En) (h : Hs) | rt (v : Va) (h : Hs) | bk (e : En) (h : Hs) | ct (e : En) (h : Hs) | ex (x : Xn) (e : En) (h : Hs) | bad
abbrev Sm (α : Type) := En → Hs → Rs α
abbrev Sx := Sm Va
abbrev Ss := En → Hs → Rt

/-- what is fixed: the written part, the module's names -/
structure Ct where
  K : PySem.W.Frag
  mg : Str → Option Value

def RoL (K : PySem.W.Frag) (H : Hp) (a : Addr) (vs : List V) : Prop := (∃ o, H a = some (.frz o (.lst vs))) ∨ ∀ H', SqL K H' a vs
/-- a range object, as it stands -/
def rgObj (i : Int) (t : Tok) (j : Int) (u : Tok) (c : Int) (v : Tok) : PySem.Obj := { cls := .type "range", data := .fields #[.int i t, .int j u, .int c v] }
mutual
inductive Rp (C : Ct) (ρ : List Addr) (H : Hp) : Va → V → Prop
  | non : Rp C ρ H .non .non
  | bl (b : Bool) : Rp C ρ H (.bl b) (.bl b)
  | int (i : Int) : Rp C ρ H (.int i) (.int i)
  | str (x : List Nat) : Rp C ρ H (.str x) (.str ⟨x.toArray⟩)
  | tup {xs : List Va} {vs : List V} {a : Addr} : SqT C.K H a vs → RpL C ρ H xs vs → Rp C ρ H (.tup xs) (.ref a)
  | ros {xs : List Va} {vs : List V} {a : Addr} : RoL C.K H a vs → RpL C ρ H xs vs → Rp C ρ H (.ros xs) (.ref a)
  | loc {n : Nat} {a : Addr} : ρ[n]? = some a → Rp C ρ H (.loc n) (.ref a)
  | fn {x : Str} {a : Addr} : C.mg x = some (.ref a) → Rp C ρ H (.fn x) (.ref a)
  | ty (n : String) : Rp C ρ H (.ty n) (.ty n)
  | rg {i j c : Int} {t u v : Tok} {a : Addr} : H a = some (.frz (rgObj i t j u c v) (.own 0)) → Rp C ρ H (.rg i j c) (.ref a)
inductive RpL (C : Ct) (ρ : List Addr) (H : Hp) : List Va → List V → Prop
  | nil : RpL C ρ H [] []
  | cons {x : Va} {xs : List Va} {v : V} {vs : List V} : Rp C ρ H x v → RpL C ρ H xs vs → RpL C ρ H (x :: xs) (v :: vs)
end

structure Ext (C : Ct) (ρ : List Addr) (H : Hp) (ρ' : List Addr) (H' : Hp) : Prop where
  pre : ∀ (n : Nat) (a : Addr), ρ[n]? = some a → ρ'[n]? = some a
  tup : ∀ a vs, SqT C.K H a vs → SqT C.K H' a vs
  frz : ∀ a o u, H a = some (.frz o u) → H' a = some (.frz o u)
  new : ∀ (n : Nat) (a : Addr), ρ'[n]? = some a → ρ[n]? = some a ∨ H a = none
  frm : ∀ a o, H a = some o → (∀ n : Nat, ρ[n]? ≠ some a) → H' a = some o
  liv : ∀ a o, H a = some o → ∃ o', H' a = some o'
theorem Ext.refl {C : Ct} {ρ : List Addr} {H : Hp} : Ext C ρ H ρ H := ⟨fun _ _ h => h, fun _ _ h => h, fun _ _ _ h => h, fun _ _ h => .inl h, fun _ _ h _ => h, fun _ o h => ⟨o, h⟩⟩
theorem Ext.trans {C : Ct} {ρ ρ1 ρ2 : List Addr} {H H1 H2 : Hp} (a : Ext C ρ H ρ1 H1) (b : Ext C ρ1 H1 ρ2 H2) : Ext C ρ H ρ2 H2 where
  pre := fun n x h => b.pre n x (a.pre n x h)
  tup := fun x vs h => b.tup x vs (a.tup x vs h)
  frz := fun x o u h => b.frz x o u (a.frz x o u h)
  new := fun n x h => by
    rcases b.new n x h with q | q
    · exact a.new n x q
    · right
      cases e : H x with
      | none => rfl
      | some o =>
        obtain ⟨o', e'⟩ := a.liv x o e
        rw [q] at e'; cases e'
  frm := fun x o h hn => b.frm x o (a.frm x o h hn) fun n q => by
    rcases a.new n x q with z | z
    · exact hn n z
    · rw [h] at z; cases z
  liv := fun x o h => by
    obtain ⟨o', e'⟩ := a.liv x o h
    exact b.liv x o' e'
theorem RoL.mono {C : Ct} {ρ ρ' : List Addr} {H H' : Hp} (x : Ext C ρ H ρ' H') {a : Addr} {vs : List V} (h : RoL C.K H a vs) : RoL C.K H' a vs := by
  rcases h with ⟨o, h⟩ | h
  · exact .inl ⟨o, x.frz _ _ _ h⟩
  · exact .inr h
theorem RoL.sq {K : PySem.W.Frag} {H : Hp} {a : Addr} {vs : List V} (h : RoL K H a vs) : SqL K H a vs := by
  rcases h with ⟨o, h⟩ | h
  · exact .inl (.inr ⟨o, h⟩)
  · exact h H
mutual
theorem Rp.mono {C : Ct} {ρ ρ' : List Addr} {H H' : Hp} (x : Ext C ρ H ρ' H') : ∀ {y : Va} {v : V}, Rp C ρ H y v → Rp C ρ' H' y v
  | _, _, .non => .non
  | _, _, .bl b => .bl b
  | _, _, .int i => .int i
  | _, _, .str s => .str s
  | _, _, .tup h r => .tup (x.tup _ _ h) (RpL.mono x r)
  | _, _, .ros h r => .ros (h.mono x) (RpL.mono x r)
  | _, _, .loc h => .loc (x.pre _ _ h)
  | _, _, .fn h => .fn h
  | _, _, .ty n => .ty n
  | _, _, .rg h => .rg (x.frz _ _ _ h)
theorem RpL.mono {C : Ct} {ρ ρ' : List Addr} {H H' : Hp} (x : Ext C ρ H ρ' H') : ∀ {y : List Va} {v : List V}, RpL C ρ H y v → RpL C ρ' H' y v
  | _, _, .nil => .nil
  | _, _, .cons h r => .cons (Rp.mono x h) (RpL.mono x r)
end
section
variable {C : Ct} {ρ ρ' : List Addr} {H H' : Hp}
theorem RpL.length : ∀ {xs : List Va} {vs : List V}, RpL C ρ H xs vs → xs.length = vs.length
  | _, _, .nil => rfl
  | _, _, .cons _ r => by simp [RpL.length r]
theorem RpL.get : ∀ {xs : List Va} {vs : List V} {i : Nat} {x : Va}, RpL C ρ H xs vs → xs[i]? = some x → ∃ v, vs[i]? = some v ∧ Rp C ρ H x v
  | _, _, _, _, .nil, e => by simp at e
  | _, _, 0, _, .cons r _, e => by simp at e; subst e; exact ⟨_, rfl, r⟩
  | _, _, i + 1, x, .cons _ t, e => by
    obtain ⟨u, h1, h2⟩ := RpL.get (i := i) (x := x) t (by simpa using e)
    exact ⟨u, by simpa using h1, h2⟩
theorem RpL.get' : ∀ {xs : List Va} {vs : List V} {i : Nat} {v : V}, RpL C ρ H xs vs → vs[i]? = some v → ∃ x, xs[i]? = some x ∧ Rp C ρ H x v
  | _, _, _, _, .nil, e => by simp at e
  | _, _, 0, _, .cons r _, e => by simp at e; subst e; exact ⟨_, rfl, r⟩
  | _, _, i + 1, x, .cons _ t, e => by
    obtain ⟨u, h1, h2⟩ := RpL.get' (i := i) (v := x) t (by simpa using e)
    exact ⟨u, by simpa using h1, h2⟩
theorem RpL.append : ∀ {xs ys : List Va} {vs us : List V}, RpL C ρ H xs vs → RpL C ρ H ys us → RpL C ρ H (xs ++ ys) (vs ++ us)
  | _, _, _, _, .nil, s => s
  | _, _, _, _, .cons r t, s => .cons r (RpL.append t s)
theorem RpL.take : ∀ {xs : List Va} {vs : List V} (n : Nat), RpL C ρ H xs vs → RpL C ρ H (xs.take n) (vs.take n)
  | _, _, 0, _ => .nil
  | _, _, _ + 1, .nil => .nil
  | _, _, n + 1, .cons r t => .cons r (RpL.take n t)
theorem RpL.drop : ∀ {xs : List Va} {vs : List V} (n : Nat), RpL C ρ H xs vs → RpL C ρ H (xs.drop n) (vs.drop n)
  | _, _, 0, r => r
  | _, _, _ + 1, .nil => .nil
  | _, _, n + 1, .cons _ t => RpL.drop n t
theorem RpL.set {x : Va} {v : V} (r : Rp C ρ H x v) : ∀ {xs : List Va} {vs : List V} (i : Nat), RpL C ρ H xs vs → RpL C ρ H (xs.set i x) (vs.set i v)
  | _, _, _, .nil => .nil
  | _, _, 0, .cons _ t => .cons r t
  | _, _, i + 1, .cons q t => .cons q (RpL.set r i t)
end

/-- a key: an int or a text -/
def keyA : Va → Option Key
  | .int i => some (.inl i)
  | .str x => some (.inr ⟨x.toArray⟩)
  | _ => none
inductive RpK (C : Ct) (ρ : List Addr) (H : Hp) : List (Va × Va) → List (Key × V) → Prop
  | nil : RpK C ρ H [] []
  | cons {k x : Va} {k' : Key} {v : V} {xs : List (Va × Va)} {vs : List (Key × V)} : keyA k = some k' → Rp C ρ H x v → RpK C ρ H xs vs → RpK C ρ H ((k, x) :: xs) ((k', v) :: vs)
theorem RpK.map {C : Ct} {ρ ρ' : List Addr} {H H' : Hp} (f : ∀ {x : Va} {v : V}, Rp C ρ H x v → Rp C ρ' H' x v) : ∀ {xs : List (Va × Va)} {vs : List (Key × V)}, RpK C ρ H xs vs → RpK C ρ' H' xs vs
  | _, _, .nil => .nil
  | _, _, .cons e r rs => .cons e (f r) (RpK.map f rs)
theorem RpK.mono {C : Ct} {ρ ρ' : List Addr} {H H' : Hp} {xs : List (Va × Va)} {vs : List (Key × V)} (r : RpK C ρ H xs vs) (x : Ext C ρ H ρ' H') : RpK C ρ' H' xs vs := r.map fun q => q.mono x
def ObR (C : Ct) (ρ : List Addr) (H : Hp) : Ob → Addr → Prop
  | .lst xs, a => ∃ vs, H a = some (.lst vs) ∧ RpL C ρ H xs vs
  | .dct xs, a => ∃ vs, H a = some (.dK vs) ∧ RpK C ρ H xs vs
structure HR (C : Ct) (ρ : List Addr) (h : Hs) (H : Hp) : Prop where
  len : ρ.length = h.length
  nd : ∀ (i j : Nat) (a : Addr), ρ[i]? = some a → ρ[j]? = some a → i = j
  ob : ∀ (n : Nat) (o : Ob) (a : Addr), h[n]? = some o → ρ[n]? = some a → ObR C ρ H o a
def SR (C : Ct) (ρ : List Addr) (H : Hp) (e : En) (σ : St) : Prop := e.length = σ.length ∧ ∀ (i : Nat) (x : Va), e[i]? = some (some x) → ∃ v, σ[i]? = some (some v) ∧ Rp C ρ H x v
theorem SR.mono {C : Ct} {ρ ρ' : List Addr} {H H' : Hp} {e : En} {σ : St} (x : Ext C ρ H ρ' H') (h : SR C ρ H e σ) : SR C ρ' H' e σ :=
  ⟨h.1, fun i y q => let ⟨v, e1, r⟩ := h.2 i y q; ⟨v, e1, r.mono x⟩⟩
theorem SR.set {C : Ct} {ρ : List Addr} {H : Hp} {e : En} {σ : St} {x : Va} {v : V} (i : Nat) (h : SR C ρ H e σ) (r : Rp C ρ H x v) : SR C ρ H (e.set i (some x)) (σ.set i (some v)) := by
  refine ⟨by simp [h.1], fun j y q => ?_⟩
  by_cases hij : i = j
  · subst hij
    rw [List.getElem?_set] at q ⊢
    by_cases hl : i < e.length
    · simp [hl] at q
      subst q
      rw [h.1] at hl
      exact ⟨v, by simp [hl], r⟩
    · simp [hl] at q
  · rw [List.getElem?_set_ne hij] at q ⊢
    exact h.2 j y q
theorem HR.at_ {C : Ct} {ρ : List Addr} {h : Hs} {H : Hp} (x : HR C ρ h H) {n : Nat} {o : Ob} (e : h[n]? = some o) : ∃ a, ρ[n]? = some a ∧ ObR C ρ H o a := by
  have hl : n < ρ.length := by
    rw [x.len]
    exact (List.getElem?_eq_some_iff.mp e).1
  exact ⟨ρ[n], by simp [hl], x.ob n o _ e (by simp [hl])⟩
theorem HR.sm_ {C : Ct} {ρ : List Addr} {h : Hs} {H : Hp} (x : HR C ρ h H) {n : Nat} {a : Addr} (e : ρ[n]? = some a) : ∃ o, H a = some o := by
  have hl : n < h.length := by
    rw [← x.len]
    exact (List.getElem?_eq_some_iff.mp e).1
  have q := x.ob n h[n] a (by simp [hl]) e
  revert q
  cases h[n] with
  | lst xs => rintro ⟨vs, e, _⟩; exact ⟨_, e⟩
  | dct k => rintro ⟨vs, e, _⟩; exact ⟨_, e⟩
/-- an own list -/
theorem HR.ls_ {C : Ct} {ρ : List Addr} {h : Hs} {H : Hp} (x : HR C ρ h H) {n : Nat} {xs : List Va} {v : V} (e : h[n]? = some (.lst xs)) (r : Rp C ρ H (.loc n) v) : ∃ a vs, v = .ref a ∧ ρ[n]? = some a ∧ H a = some (.lst vs) ∧ RpL C ρ H xs vs := by
  cases r with
  | loc q =>
    obtain ⟨vs, e1, e2⟩ := x.ob n _ _ e q
    exact ⟨_, vs, rfl, q, e1, e2⟩
theorem ext_new {C : Ct} {ρ : List Addr} {H : Hp} {p : Addr} {o : HO} (hp : H p = none) : Ext C ρ H ρ (upd H p o) where
  pre := fun _ _ h => h
  tup := fun a vs h => by
    rcases h with (h | ⟨ob, h⟩) | h
    · exact .inl (.inl (by rw [upd_ne (ne_of_none h hp)]; exact h))
    · exact .inl (.inr ⟨ob, by rw [upd_ne (ne_of_none h hp)]; exact h⟩)
    · exact .inr h
  frz := fun a ob u h => by rw [upd_ne (ne_of_none h hp)]; exact h
  new := fun _ _ h => .inl h
  frm := fun a ob h _ => by rw [upd_ne (ne_of_none h hp)]; exact h
  liv := fun a ob h => ⟨ob, by rw [upd_ne (ne_of_none h hp)]; exact h⟩
theorem ext_alloc {C : Ct} {ρ : List Addr} {H : Hp} {p : Addr} {o : HO} (hp : H p = none) : Ext C ρ H (ρ ++ [p]) (upd H p o) := by
  have e := ext_new (C := C) (ρ := ρ) (o := o) hp
  refine ⟨fun n a h => ?_, e.tup, e.frz, fun n a h => ?_, e.frm, e.liv⟩
  · rw [List.getElem?_append_left (List.getElem?_eq_some_iff.mp h).1]; exact h
  · by_cases hl : n < ρ.length
    · rw [List.getElem?_append_left hl] at h; exact .inl h
    · right
      rw [List.getElem?_append_right (by omega)] at h
      have : n - ρ.length = 0 := by
        cases q : n - ρ.length with
        | zero => rfl
        | succ k => rw [q] at h; simp at h
      rw [this] at h
      simp at h
      rw [← h]; exact hp
/-- a new list -/
theorem HR.alloc {C : Ct} {ρ : List Addr} {h : Hs} {H : Hp} (x : HR C ρ h H) {p : Addr} (hp : H p = none) {xs : List Va} {vs : List V} (r : RpL C ρ H xs vs) :
    Ext C ρ H (ρ ++ [p]) (upd H p (.lst vs)) ∧ HR C (ρ ++ [p]) (h ++ [.lst xs]) (upd H p (.lst vs)) ∧ Rp C (ρ ++ [p]) (upd H p (.lst vs)) (.loc h.length) (.ref p) := by
  have e : Ext C ρ H (ρ ++ [p]) (upd H p (.lst vs)) := ext_alloc hp
  have np : ∀ i a, ρ[i]? = some a → a ≠ p := fun i a hi => by
    obtain ⟨o, ho⟩ := x.sm_ hi
    exact ne_of_none ho hp
  refine ⟨e, ⟨by simp [x.len], fun i j a hi hj => ?_, fun n o a hn ha => ?_⟩, .loc (by rw [← x.len]; simp)⟩
  · by_cases h1 : i < ρ.length <;> by_cases h2 : j < ρ.length
    · rw [List.getElem?_append_left h1] at hi
      rw [List.getElem?_append_left h2] at hj
      exact x.nd i j a hi hj
    · rw [List.getElem?_append_left h1] at hi
      rcases e.new j a hj with q | q
      · exact x.nd i j a hi q
      · obtain ⟨o, ho⟩ := x.sm_ hi
        rw [q] at ho; cases ho
    · rw [List.getElem?_append_left h2] at hj
      rcases e.new i a hi with q | q
      · exact x.nd i j a q hj
      · obtain ⟨o, ho⟩ := x.sm_ hj
        rw [q] at ho; cases ho
    · have l1 := (List.getElem?_eq_some_iff.mp hi).1
      have l2 := (List.getElem?_eq_some_iff.mp hj).1
      simp at l1 l2
      omega
  · by_cases h1 : n < ρ.length
    · rw [List.getElem?_append_left h1] at ha
      rw [List.getElem?_append_left (by rw [← x.len]; exact h1)] at hn
      have q := x.ob n o a hn ha
      revert q
      cases o with
      | lst ys =>
        rintro ⟨ws, e1, e2⟩
        exact ⟨ws, by rw [upd_ne (np n a ha)]; exact e1, e2.mono e⟩
      | dct k =>
        rintro ⟨ws, e1, e2⟩
        exact ⟨ws, by rw [upd_ne (np n a ha)]; exact e1, e2.mono e⟩
    · have l1 := (List.getElem?_eq_some_iff.mp ha).1
      have hl := x.len
      simp at l1
      have en : n = ρ.length := by omega
      subst en
      rw [hl] at hn
      simp at hn ha
      subst hn ha
      exact ⟨vs, upd_same, r.mono e⟩
/-- a list written -/
theorem HR.write {C : Ct} {ρ : List Addr} {h : Hs} {H : Hp} (x : HR C ρ h H) {n : Nat} {a : Addr} {xs xs' : List Va} {vs vs' : List V} (hn : h[n]? = some (.lst xs)) (ha : ρ[n]? = some a) (hl : H a = some (.lst vs)) (r : RpL C ρ H xs' vs') :
    Ext C ρ H ρ (upd H a (.lst vs')) ∧ HR C ρ (h.set n (.lst xs')) (upd H a (.lst vs')) := by
  have nt : ∀ b o, H b = some o → (∀ ws, o ≠ .lst ws) → b ≠ a := fun b o hb ho e => by
    subst e
    rw [hl] at hb
    exact ho vs (Option.some.inj hb).symm
  have e : Ext C ρ H ρ (upd H a (.lst vs')) := by
    refine ⟨fun _ _ q => q, fun b ws q => ?_, fun b o u q => ?_, fun _ _ q => .inl q, fun b o q hno => ?_, fun b o q => ?_⟩
    · rcases q with (q | ⟨ob, q⟩) | q
      · exact .inl (.inl (by rw [upd_ne (nt b _ q fun ws z => by cases z)]; exact q))
      · exact .inl (.inr ⟨ob, by rw [upd_ne (nt b _ q fun ws z => by cases z)]; exact q⟩)
      · exact .inr q
    · rw [upd_ne (nt b _ q fun ws z => by cases z)]; exact q
    · rw [upd_ne (fun z => hno n (by rw [z]; exact ha))]; exact q
    · by_cases hb : b = a
      · exact ⟨_, by rw [hb]; exact upd_same⟩
      · exact ⟨o, by rw [upd_ne hb]; exact q⟩
  refine ⟨e, by simp [x.len], x.nd, fun m o b hm hb => ?_⟩
  by_cases hmn : n = m
  · subst hmn
    have l := (List.getElem?_eq_some_iff.mp hn).1
    rw [List.getElem?_set_self l] at hm
    rw [ha] at hb
    cases hm; cases hb
    exact ⟨vs', upd_same, r.mono e⟩
  · rw [List.getElem?_set_ne hmn] at hm
    have q := x.ob m o b hm hb
    have hba : b ≠ a := fun z => hmn (x.nd n m a ha (by rw [← z]; exact hb))
    revert q
    cases o with
    | lst ys =>
      rintro ⟨ws, e1, e2⟩
      exact ⟨ws, by rw [upd_ne hba]; exact e1, e2.mono e⟩
    | dct k =>
      rintro ⟨ws, e1, e2⟩
      exact ⟨ws, by rw [upd_ne hba]; exact e1, e2.mono e⟩

/-- an exception that comes -/
def XR (C : Ct) (ρ : List Addr) (H : Hp) (x : Xn) (cls : Value) (d : Option Addr) : Prop :=
  ∃ Cl, C.mg x.cls = some (.ref Cl) ∧ cls = .ref Cl ∧ ∃ dd vs, d = some dd ∧ H dd = some (.xd vs) ∧ vs.map (·.1) = x.fs.map (·.1) ∧ RpL C ρ H (x.fs.map (·.2)) (vs.map (·.2))
/-- what is wanted behind a reading's run -/
def Po {α β : Type} (C : Ct) (rel : List Addr → Hp → α → β → Prop) (W : XK) (Q : β → Hp → Prop) (ρ : List Addr) (H : Hp) : Rs α → Prop
  | .ok x h => ∀ ρ' H' v, Ext C ρ H ρ' H' → HR C ρ' h H' → rel ρ' H' x v → Q v H'
  | .ex x h => ∀ ρ' H' cls d, Ext C ρ H ρ' H' → HR C ρ' h H' → XR C ρ' H' x cls d → W cls d H'
  | .bad => False
theorem Po.mono {α β : Type} {C : Ct} {rel : List Addr → Hp → α → β → Prop} {W : XK} {Q : β → Hp → Prop} {ρ ρ1 : List Addr} {H H1 : Hp} (e : Ext C ρ H ρ1 H1) : ∀ {r : Rs α}, Po C rel W Q ρ H r → Po C rel W Q ρ1 H1 r
  | .ok _ _, p => fun ρ' H' v e' => p ρ' H' v (e.trans e')
  | .ex _ _, p => fun ρ' H' c d e' => p ρ' H' c d (e.trans e')
  | .bad, p => p
/-- a reading by a run of plain data -/
def tX {α β : Type} (C : Ct) (rel : List Addr → Hp → α → β → Prop) (W : WX) (f : Sm α) : St → Hp → (β → Hp → Prop) → Prop := fun σ H Q =>
  ∃ ρ e h, SR C ρ H e σ ∧ HR C ρ h H ∧ Po C rel (fun c d H' => W c d σ H') Q ρ H (f e h)
abbrev tE (C : Ct) (W : WX) (f : Sx) : TE := tX C (Rp C) W f
abbrev tAr (C : Ct) (W : WX) (f : Sm (List Va)) : TA := tX C (RpL C) W f
abbrev tTe (C : Ct) (W : WX) (f : Sm Bool) : TT := tX C (fun _ _ a b => a = b) W f

def bnd {α β : Type} (f : Sm α) (k : α → Sm β) : Sm β := fun e h => match f e h with
  | .ok x h' => k x e h'
  | .ex x h' => .ex x h'
  | .bad => .bad
def ret {α : Type} (x : α) : Sm α := fun _ h => .ok x h
/-- on values alone -/
def vl {α : Type} (r : Hs → Rs α) : Sm α := fun _ h => r h
section
variable {α β γ δ : Type} {C : Ct} {W : WX} {σ : St} {H : Hp} {rel : List Addr → Hp → α → β → Prop} {rel2 : List Addr → Hp → γ → δ → Prop}
/-- THE STEP: a part first, then the rest from where the part led -/
theorem Po_bnd {f : Sm α} {k : α → Sm γ} {Q : δ → Hp → Prop} {R : β → Hp → Prop} {ρ : List Addr} {e : En} {h : Hs} (hs : SR C ρ H e σ) (hr : HR C ρ h H) (p : Po C rel2 (fun c d H' => W c d σ H') Q ρ H (bnd f k e h))
    (hk : ∀ (ρ1 : List Addr) (H1 : Hp) (h1 : Hs) (x : α) (v : β), Ext C ρ H ρ1 H1 → SR C ρ1 H1 e σ → HR C ρ1 h1 H1 → rel ρ1 H1 x v → Po C rel2 (fun c d H' => W c d σ H') Q ρ1 H1 (k x e h1) → R v H1) : tX C rel W f σ H R := by
  refine ⟨ρ, e, h, hs, hr, ?_⟩
  unfold bnd at p
  cases q : f e h with
  | ok x h1 =>
    rw [q] at p
    exact fun ρ1 H1 v e1 hr1 rv => hk ρ1 H1 h1 x v e1 (hs.mono e1) hr1 rv (Po.mono e1 p)
  | ex x h1 => rw [q] at p; exact p
  | bad => rw [q] at p; exact p
theorem tX_bnd {f : Sm α} {k : α → Sm γ} {Q : δ → Hp → Prop} {R : β → Hp → Prop} (h : tX C rel2 W (bnd f k) σ H Q)
    (hk : ∀ (ρ1 : List Addr) (H1 : Hp) (e : En) (h1 : Hs) (x : α) (v : β), SR C ρ1 H1 e σ → HR C ρ1 h1 H1 → rel ρ1 H1 x v → Po C rel2 (fun c d H' => W c d σ H') Q ρ1 H1 (k x e h1) → R v H1) : tX C rel W f σ H R := by
  obtain ⟨ρ, e, hh, hs, hr, p⟩ := h
  exact Po_bnd hs hr p fun ρ1 H1 h1 x v _ a b c d => hk ρ1 H1 e h1 x v a b c d
theorem tX_ret {x : α} {Q : β → Hp → Prop} (h : tX C rel W (ret x) σ H Q) : ∀ v, (∀ ρ H, rel ρ H x v) → Q v H := fun v hv => by
  obtain ⟨ρ, e, hh, hs, hr, p⟩ := h
  exact p ρ H v .refl hr (hv ρ H)
theorem Po.imp {W' : XK} {Q Q' : β → Hp → Prop} {W1 : XK} {ρ : List Addr} (hQ : ∀ v H', Q v H' → Q' v H') (hW : ∀ c d H', W1 c d H' → W' c d H') : ∀ {r : Rs α}, Po C rel W1 Q ρ H r → Po C rel W' Q' ρ H r
  | .ok _ _, p => fun ρ' H' v a b c => hQ _ _ (p ρ' H' v a b c)
  | .ex _ _, p => fun ρ' H' cc d a b c => hW _ _ _ (p ρ' H' cc d a b c)
  | .bad, p => p
theorem tX_imp {f : Sm α} {Q Q' : β → Hp → Prop} (h : tX C rel W f σ H Q) (hQ : ∀ v H', Q v H' → Q' v H') : tX C rel W f σ H Q' := by
  obtain ⟨ρ, e, hh, hs, hr, p⟩ := h
  exact ⟨ρ, e, hh, hs, hr, Po.imp hQ (fun _ _ _ z => z) p⟩
end

/-! ### statements -/
def PoS (C : Ct) (W : WX) (D : Ends) (ρ : List Addr) (H : Hp) : Rt → Prop
  | .nx e h => ∀ ρ' H' σ', Ext C ρ H ρ' H' → HR C ρ' h H' → SR C ρ' H' e σ' → D.nx σ' H'
  | .bk e h => ∀ ρ' H' σ', Ext C ρ H ρ' H' → HR C ρ' h H' → SR C ρ' H' e σ' → D.bk σ' H'
  | .ct e h => ∀ ρ' H' σ', Ext C ρ H ρ' H' → HR C ρ' h H' → SR C ρ' H' e σ' → D.ct σ' H'
  | .rt x h => ∀ ρ' H' v, Ext C ρ H ρ' H' → HR C ρ' h H' → Rp C ρ' H' x v → D.rt v H'
  | .ex x e h => ∀ ρ' H' σ' cls d, Ext C ρ H ρ' H' → HR C ρ' h H' → SR C ρ' H' e σ' → XR C ρ' H' x cls d → W cls d σ' H'
  | .bad => False
theorem PoS.mono {C : Ct} {W : WX} {D : Ends} {ρ ρ1 : List Addr} {H H1 : Hp} (e : Ext C ρ H ρ1 H1) : ∀ {r : Rt}, PoS C W D ρ H r → PoS C W D ρ1 H1 r
  | .nx _ _, p => fun ρ' H' v e' => p ρ' H' v (e.trans e')
  | .bk _ _, p => fun ρ' H' v e' => p ρ' H' v (e.trans e')
  | .ct _ _, p => fun ρ' H' v e' => p ρ' H' v (e.trans e')
  | .rt _ _, p => fun ρ' H' v e' => p ρ' H' v (e.trans e')
  | .ex _ _ _, p => fun ρ' H' s c d e' => p ρ' H' s c d (e.trans e')
  | .bad, p => p
def tSt (C : Ct) (W : WX) (f : Ss) : TS := fun D σ H => ∃ ρ e h, SR C ρ H e σ ∧ HR C ρ h H ∧ PoS C W D ρ H (f e h)
/-- an expression first, then a statement's rest -/
def bnS {α : Type} (f : Sm α) (k : α → Ss) : Ss := fun e h => match f e h with
  | .ok x h' => k x e h'
  | .ex x h' => .ex x e h'
  | .bad => .bad
theorem PoS_bnS {α β : Type} {C : Ct} {W : WX} {σ : L2.St} {H : Hp} {rel : List Addr → Hp → α → β → Prop} {f : Sm α} {k : α → Ss} {D : Ends} {R : β → Hp → Prop} {ρ : List Addr} {e : En} {h : Hs} (hs : SR C ρ H e σ) (hr : HR C ρ h H) (p : PoS C W D ρ H (bnS f k e h))
    (hk : ∀ (ρ1 : List Addr) (H1 : Hp) (h1 : Hs) (x : α) (v : β), Ext C ρ H ρ1 H1 → SR C ρ1 H1 e σ → HR C ρ1 h1 H1 → rel ρ1 H1 x v → PoS C W D ρ1 H1 (k x e h1) → R v H1) : tX C rel W f σ H R := by
  refine ⟨ρ, e, h, hs, hr, ?_⟩
  unfold bnS at p
  cases q : f e h with
  | ok x h1 =>
    rw [q] at p
    exact fun ρ1 H1 v e1 hr1 rv => hk ρ1 H1 h1 x v e1 (hs.mono e1) hr1 rv (PoS.mono e1 p)
  | ex x h1 => rw [q] at p; exact fun ρ' H' cls d a b c => p ρ' H' σ cls d a b (hs.mono a) c
  | bad => rw [q] at p; exact p
theorem tSt_bnS {α β : Type} {C : Ct} {W : WX} {σ : L2.St} {H : Hp} {rel : List Addr → Hp → α → β → Prop} {f : Sm α} {k : α → Ss} {D : Ends} {R : β → Hp → Prop} (h : tSt C W (bnS f k) D σ H)
    (hk : ∀ (ρ1 : List Addr) (H1 : Hp) (e : En) (h1 : Hs) (x : α) (v : β), SR C ρ1 H1 e σ → HR C ρ1 h1 H1 → rel ρ1 H1 x v → PoS C W D ρ1 H1 (k x e h1) → R v H1) : tX C rel W f σ H R := by
  obtain ⟨ρ, e, hh, hs, hr, p⟩ := h
  exact PoS_bnS hs hr p fun ρ1 H1 h1 x v _ a b c d => hk ρ1 H1 e h1 x v a b c d
def seq (f g : Ss) : Ss := fun e h => match f e h with
  | .nx e' h' => g e' h'
  | r => r
end Fw

set_option Elab.async false
set_option linter.all false
set_option maxRecDepth 100000
set_option maxHeartbeats 2000000
set_option autoImplicit false
namespace Fw
open PySem PySem.Spec L2

/-! ### reading one by the other -/
section
variable {X : Cx}
theorem pe_of {e : Expr} {t t' : TE} (h : PE X e t) (i : ∀ σ H Q, t' σ H Q → t σ H Q) : PE X e t' := ⟨fun pins s σ H Q I q => h.run pins s σ H Q I (i σ H Q q)⟩
theorem pt_of {e : Expr} {t t' : TT} (h : PT X e t) (i : ∀ σ H Q, t' σ H Q → t σ H Q) : PT X e t' := ⟨fun pins s σ H Q I q => h.run pins s σ H Q I (i σ H Q q)⟩
theorem pw_of {e : Expr} {t t' : TT} (h : PW X e t) (i : ∀ σ H Q, t' σ H Q → t σ H Q) : PW X e t' := ⟨fun wh pins s σ H Q I q => h.run wh pins s σ H Q I (i σ H Q q)⟩
theorem pa_of {es : List Expr} {t t' : TA} (h : PA X es t) (i : ∀ σ H Q, t' σ H Q → t σ H Q) : PA X es t' := ⟨fun pos pins s σ H Q I q => h.run pos pins s σ H Q I (i σ H Q q)⟩
theorem pk_of {es : List Keyword} {t t' : TA} (h : PK X es t) (i : ∀ σ H Q, t' σ H Q → t σ H Q) : PK X es t' := ⟨fun pos pins s σ H Q I q => h.run pos pins s σ H Q I (i σ H Q q)⟩
theorem ps_of {st : Stmt} {t t' : TS} (h : PS X st t) (i : ∀ D σ H, t' D σ H → t D σ H) : PS X st t' := ⟨fun pins s σ H D I q => h.run pins s σ H D I (i D σ H q)⟩
theorem pss_of {st : List Stmt} {t t' : TS} (h : PSs X st t) (i : ∀ D σ H, t' D σ H → t D σ H) : PSs X st t' := ⟨fun pins s σ H D I q => h.run pins s σ H D I (i D σ H q)⟩
end

/-! ### names and constants -/
def sVar (i : Nat) : Sx := fun e h => match e[i]? with
  | some (some x) => .ok x h
  | _ => .bad
def sK (x : Va) : Sx := fun _ h => .ok x h
section
variable {X : Cx} {C : Ct} {W : WX}
theorem se_var (i : Nat) {x : Str} {pos : Pos} (hN : X.N[i]? = some x := by rfl) (hv : Vis X.env.scope x := by first | exact Or.inl rfl | exact Or.inr (Or.inl rfl) | exact Or.inr (Or.inr rfl)) (hd : (x == ("__debug__" : Str)) = false := by decide)
    (hcd : (x == ("__classdict__" : Str)) = false := by decide) : PE X (.Name x pos) (tE C W (sVar i)) := by
  refine pe_of (pe_var hN hv hd hcd) fun σ H Q ⟨ρ, e, h, hs, hr, p⟩ => ?_
  unfold sVar at p
  split at p
  · rename_i y hy
    obtain ⟨v, e1, r⟩ := hs.2 i y hy
    exact ⟨v, e1, p ρ H v .refl hr r⟩
  · exact p.elim
theorem tC_of {x : Va} {v : V} (hv : ∀ ρ H, Rp C ρ H x v) : ∀ σ H Q, tE C W (sK x) σ H Q → tC v σ H Q := fun σ H Q ⟨ρ, e, h, hs, hr, p⟩ => p ρ H v .refl hr (hv ρ H)
theorem se_int {i : Int} {j pos} : PE X (.Constant (.int i) j pos) (tE C W (sK (.int i))) := pe_of pe_int (tC_of fun _ _ => .int i)
theorem se_bl {b : Bool} {j pos} : PE X (.Constant (.bool b) j pos) (tE C W (sK (.bl b))) := pe_of pe_bl (tC_of fun _ _ => .bl b)
theorem se_non {j pos} : PE X (.Constant .none j pos) (tE C W (sK .non)) := pe_of pe_non (tC_of fun _ _ => .non)
theorem se_str {x : Str} {j pos} (l : List Nat) (hl : (⟨l.toArray⟩ : Str) = x := by rfl) : PE X (.Constant (.str x) j pos) (tE C W (sK (.str l))) := by
  subst hl
  exact pe_of pe_str (tC_of fun _ _ => .str l)
/-- a module's whole number -/
theorem se_gint {x : Str} {i : Int} {t : Tok} {pos : Pos} (hg : Gl X x) (hm : X.mg x = some (.int i t)) (hd : (x == ("__debug__" : Str)) = false := by decide) : PE X (.Name x pos) (tE C W (sK (.int i))) :=
  pe_of (pe_glob (v := .int i) hg hm ⟨t, rfl⟩ hd) (tC_of fun _ _ => .int i)
/-- a def as a value -/
theorem se_gfn {x : Str} {a : Addr} {pos : Pos} (hC : X.mg = C.mg) (hg : Gl X x) (hm : X.mg x = some (.ref a)) (hd : (x == ("__debug__" : Str)) = false := by decide) : PE X (.Name x pos) (tE C W (sK (.fn x))) :=
  pe_of (pe_glob (v := .ref a) hg hm rfl hd) (tC_of fun _ _ => .fn (by rw [← hC]; exact hm))
/-- a built-in type as a value -/
theorem se_ty {x : Str} {n : String} {pos : Pos} (hg : Gl X x) (hm : X.mg x = none) (hv : bootBuiltins x = some (.type n) := by decide +kernel) (hn : x ≠ "__name__" := by decide) (hd : (x == ("__debug__" : Str)) = false := by decide) : PE X (.Name x pos) (tE C W (sK (.ty n))) :=
  pe_of (pe_bltn (v := .ty n) hg hm hv rfl hn hd) (tC_of fun _ _ => .ty n)
end

/-! ### operators by values -/
def VOp (C : Ct) (r : R2) (k : Va → Va → Hs → Rs Va) : Prop := ∀ (ρ : List Addr) (H : Hp) (h : Hs) (x y : Va) (v u : V) (W : XK) (Q : VK), HR C ρ h H → Rp C ρ H x v → Rp C ρ H y u → Po C (Rp C) W Q ρ H (k x y h) → r v u H Q
def VUn (C : Ct) (r : V → Hp → VK → Prop) (k : Va → Hs → Rs Va) : Prop := ∀ (ρ : List Addr) (H : Hp) (h : Hs) (x : Va) (v : V) (W : XK) (Q : VK), HR C ρ h H → Rp C ρ H x v → Po C (Rp C) W Q ρ H (k x h) → r v H Q
def VCa (C : Ct) (r : List V → Hp → VK → Prop) (k : List Va → Hs → Rs Va) : Prop := ∀ (ρ : List Addr) (H : Hp) (h : Hs) (x : List Va) (v : List V) (W : XK) (Q : VK), HR C ρ h H → RpL C ρ H x v → Po C (Rp C) W Q ρ H (k x h) → r v H Q
def s2 (k : Va → Va → Hs → Rs Va) (a b : Sx) : Sx := bnd a fun x => bnd b fun y => vl (k x y)
def s1 (k : Va → Hs → Rs Va) (a : Sx) : Sx := bnd a fun x => vl (k x)
section
variable {C : Ct} {W : WX}
theorem t2_of {r : R2} {k : Va → Va → Hs → Rs Va} {a b : Sx} (hv : VOp C r k) : ∀ σ H Q, tE C W (s2 k a b) σ H Q → tOp r (tE C W a) (tE C W b) σ H Q := fun σ H Q h =>
  tX_bnd h fun ρ H1 e h1 x v hs hr rv p => Po_bnd hs hr p fun ρ2 H2 h2 y u e2 _ hr2 ru p2 => hv ρ2 H2 h2 x y v u _ Q hr2 (rv.mono e2) ru p2
theorem t1_of {r : V → Hp → VK → Prop} {k : Va → Hs → Rs Va} {a : Sx} (hv : VUn C r k) : ∀ σ H Q, tE C W (s1 k a) σ H Q → tUn r (tE C W a) σ H Q := fun σ H Q h =>
  tX_bnd h fun ρ H1 e h1 x v hs hr rv p => hv ρ H1 h1 x v _ Q hr rv p
theorem tC_call {r : List V → Hp → VK → Prop} {k : List Va → Hs → Rs Va} {a : Sm (List Va)} (hv : VCa C r k) : ∀ σ H Q, tE C W (bnd a fun x => vl (k x)) σ H Q → tCB r (tAr C W a) σ H Q := fun σ H Q h =>
  tX_bnd h fun ρ H1 e h1 x v hs hr rv p => hv ρ H1 h1 x v _ Q hr rv p
/-- argument lists -/
def sNil : Sm (List Va) := fun _ h => .ok [] h
def sCons (a : Sx) (r : Sm (List Va)) : Sm (List Va) := bnd a fun x => bnd r fun xs => fun _ h => .ok (x :: xs) h
theorem tNil_of : ∀ σ H Q, tAr C W sNil σ H Q → tNil σ H Q := fun σ H Q ⟨ρ, e, h, hs, hr, p⟩ => p ρ H [] .refl hr .nil
theorem tCons_of {a : Sx} {r : Sm (List Va)} : ∀ σ H Q, tAr C W (sCons a r) σ H Q → tCons (tE C W a) (tAr C W r) σ H Q := fun σ H Q h =>
  tX_bnd h fun ρ H1 e h1 x v hs hr rv p => Po_bnd hs hr p fun ρ2 H2 h2 xs vs e2 _ hr2 rvs p2 => p2 ρ2 H2 _ .refl hr2 (.cons (rv.mono e2) rvs)
end
section
variable {X : Cx} {C : Ct} {W : WX} {a b : Expr} {fa fb : Sx} {pos : Pos} {es : List Expr} {fr : Sm (List Va)}
theorem sa_nil : PA X [] (tAr C W sNil) := pa_of pa_nil tNil_of
theorem sa_cons (ha : PE X a (tE C W fa)) (hr : PA X es (tAr C W fr)) (hs : starEach (a :: es) X.env = (false, eval a X.env) :: starEach es X.env := by rfl) : PA X (a :: es) (tAr C W (sCons fa fr)) := pa_of (pa_cons ha hr hs) tCons_of
theorem se_op {op : Operator} {r : R2} {k : Va → Va → Hs → Rs Va} (ho : OpR X (binaryOp op) r) (hv : VOp C r k) (ha : PE X a (tE C W fa)) (hb : PE X b (tE C W fb)) : PE X (.BinOp a op b pos) (tE C W (s2 k fa fb)) := pe_of (pe_op ho ha hb) (t2_of hv)
theorem se_cmp {op : CmpOp} {r : R2} {k : Va → Va → Hs → Rs Va} (ho : OpR X (compareOp op) r) (hv : VOp C r k) (ha : PE X a (tE C W fa)) (hb : PE X b (tE C W fb)) (hm : behindInMarks op b = false := by first | exact nomark _ | rfl) : PE X (.Compare a [op] [b] pos) (tE C W (s2 k fa fb)) :=
  pe_of (pe_cmpR ho ha hb hm) (t2_of hv)
theorem se_un {op : UnaryOp} {r : V → Hp → VK → Prop} {k : Va → Hs → Rs Va} (ho : UnR X (unaryOp op) r) (hv : VUn C r k) (ha : PE X a (tE C W fa)) : PE X (.UnaryOp op a pos) (tE C W (s1 k fa)) := pe_of (pe_un ho ha) (t1_of hv)
end

/-! ### the operators -/
@[simp] def okI (i : Int) : Hs → Rs Va := fun h => .ok (.int i) h
@[simp] def okB (b : Bool) : Hs → Rs Va := fun h => .ok (.bl b) h
@[simp] def okS (x : List Nat) : Hs → Rs Va := fun h => .ok (.str x) h
/-- a new list -/
def newL (xs : List Va) : Hs → Rs Va := fun h => if xs.length ≤ 16777216 then .ok (.loc h.length) (h ++ [.lst xs]) else .bad
theorem line_eq : (sizeLine : Nat) = 16777216 := by decide
section
variable {C : Ct}
theorem Po_ok {α β : Type} {rel : List Addr → Hp → α → β → Prop} {W : XK} {Q : β → Hp → Prop} {ρ : List Addr} {H : Hp} {x : α} {h : Hs} {v : β} (p : Po C rel W Q ρ H (.ok x h)) (hr : HR C ρ h H) (rv : rel ρ H x v) : Q v H := p ρ H v .refl hr rv
/-- a new list comes -/
theorem newL_of {W : XK} {Q : VK} {ρ : List Addr} {H : Hp} {h : Hs} {xs : List Va} {vs : List V} (hr : HR C ρ h H) (r : RpL C ρ H xs vs) (p : Po C (Rp C) W Q ρ H (newL xs h)) : vs.length ≤ sizeLine ∧ ∀ q, H q = none → Q (.ref q) (upd H q (.lst vs)) := by
  unfold newL at p
  split at p
  · rename_i hl
    refine ⟨by rw [← r.length, line_eq]; exact hl, fun q hq => ?_⟩
    obtain ⟨e, hr', rl⟩ := hr.alloc hq r
    exact p _ _ _ e hr' rl
  · exact p.elim
theorem str_inj {x : List Nat} {z : Str} (h : z = ⟨x.toArray⟩) : z.cps.toList = x := by subst h; rfl
theorem str_len (x : List Nat) : (⟨x.toArray⟩ : Str).length = x.length := by show x.toArray.size = _; simp
theorem str_app (x y : List Nat) : (⟨x.toArray⟩ : Str) ++ (⟨y.toArray⟩ : Str) = ⟨(x ++ y).toArray⟩ := by
  show Str.append _ _ = _
  simp [Str.append]

@[simp] def kAdd : Va → Va → Hs → Rs Va
  | .int i, .int j => okI (i + j)
  | .str x, .str y => fun h => if x.length + y.length ≤ 16777216 then .ok (.str (x ++ y)) h else .bad
  | .loc n, .loc m => fun h => match h[n]?, h[m]? with
    | some (.lst xs), some (.lst ys) => newL (xs ++ ys) h
    | _, _ => .bad
  | .tup xs, .tup ys => fun h => if xs ≠ [] ∧ xs.length + ys.length ≤ 16777216 then .ok (.tup (xs ++ ys)) h else .bad
  | _, _ => fun _ => .bad
end
end Fw

set_option Elab.async false
set_option linter.all false
set_option maxRecDepth 100000
set_option maxHeartbeats 2000000
set_option autoImplicit false
namespace Fw
open PySem PySem.Spec L2
abbrev ctOf (X : Cx) : Ct := ⟨X.K, X.mg⟩
def OpK (X : Cx) (f : Value → Value → Sem Value) (k : Va → Va → Hs → Rs Va) : Prop := ∃ r, OpR X f r ∧ VOp (ctOf X) r k
def UnK (X : Cx) (f : Value → Sem Value) (k : Va → Hs → Rs Va) : Prop := ∃ r, UnR X f r ∧ VUn (ctOf X) r k
def CaK (X : Cx) (f : Value) (k : List Va → Hs → Rs Va) : Prop := ∃ r, CallR X f r ∧ VCa (ctOf X) r k
section
variable {X : Cx} {W : WX} {a b : Expr} {fa fb : Sx} {pos : Pos} {k : Va → Va → Hs → Rs Va}
theorem se_bin {op : Operator} (ho : OpK X (binaryOp op) k) (ha : PE X a (tE (ctOf X) W fa)) (hb : PE X b (tE (ctOf X) W fb)) : PE X (.BinOp a op b pos) (tE (ctOf X) W (s2 k fa fb)) := by
  obtain ⟨r, h1, h2⟩ := ho
  exact se_op h1 h2 ha hb
theorem se_com {op : CmpOp} (ho : OpK X (compareOp op) k) (ha : PE X a (tE (ctOf X) W fa)) (hb : PE X b (tE (ctOf X) W fb)) (hm : behindInMarks op b = false := by first | exact nomark _ | rfl) : PE X (.Compare a [op] [b] pos) (tE (ctOf X) W (s2 k fa fb)) := by
  obtain ⟨r, h1, h2⟩ := ho
  exact se_cmp h1 h2 ha hb hm
theorem se_una {op : UnaryOp} {k : Va → Hs → Rs Va} (ho : UnK X (unaryOp op) k) (ha : PE X a (tE (ctOf X) W fa)) : PE X (.UnaryOp op a pos) (tE (ctOf X) W (s1 k fa)) := by
  obtain ⟨r, h1, h2⟩ := ho
  exact se_un h1 h2 ha
end
@[simp] def kSub : Va → Va → Hs → Rs Va
  | .int i, .int j => okI (i - j)
  | _, _ => fun _ => .bad
/-- the lists of whole products are kept within the line -/
def kMul : Va → Va → Hs → Rs Va
  | .int i, .int j => fun h => if (-(2 ^ 64) < i ∧ i < 2 ^ 64) ∨ (-(2 ^ 64) < j ∧ j < 2 ^ 64) then .ok (.int (i * j)) h else .bad
  | .loc n, .int j => fun h => match h[n]? with
    | some (.lst xs) => if -(2 ^ 63) ≤ j ∧ j < 2 ^ 63 ∧ xs.length * j.toNat ≤ 16777216 then newL (List.replicate j.toNat xs).flatten h else .bad
    | _ => .bad
  | _, _ => fun _ => .bad
def kFdv : Va → Va → Hs → Rs Va
  | .int i, .int j => fun h => if 0 < j ∧ j < 1073741824 then .ok (.int (i / j)) h else .bad
  | _, _ => fun _ => .bad
def kMod : Va → Va → Hs → Rs Va
  | .int i, .int j => fun h => if 0 < j then .ok (.int (i % j)) h else .bad
  | _, _ => fun _ => .bad
def kPow : Va → Va → Hs → Rs Va
  | .int i, .int j => fun h => if 0 ≤ j ∧ j ≤ 1000000 ∧ i.natAbs < 2 ^ 64 then .ok (.int (i ^ j.toNat)) h else .bad
  | _, _ => fun _ => .bad
@[simp] def kLt : Va → Va → Hs → Rs Va
  | .int i, .int j => okB (decide (i < j))
  | .str x, .str y => okB (decide (x < y))
  | _, _ => fun _ => .bad
@[simp] def kLe : Va → Va → Hs → Rs Va
  | .int i, .int j => okB (decide (i ≤ j))
  | _, _ => fun _ => .bad
@[simp] def kGt : Va → Va → Hs → Rs Va
  | .int i, .int j => okB (decide (j < i))
  | _, _ => fun _ => .bad
@[simp] def kGe : Va → Va → Hs → Rs Va
  | .int i, .int j => okB (decide (j ≤ i))
  | _, _ => fun _ => .bad
@[simp] def kNeg : Va → Hs → Rs Va
  | .int i => okI (-i)
  | _ => fun _ => .bad
section
variable {X : Cx}
theorem vI0 {g : Int → Int → V} {g' : Int → Int → Va} {k : Va → Va → Hs → Rs Va} (hg : ∀ ρ H i j, Rp (ctOf X) ρ H (g' i j) (g i j)) (hk : ∀ x y h, (∃ i j, x = .int i ∧ y = .int j ∧ k x y h = .ok (g' i j) h) ∨ k x y h = .bad) : VOp (ctOf X) (rI0 g) k := by
  intro ρ H h x y v u W Q hr rx ry p
  rcases hk x y h with ⟨i, j, rfl, rfl, e⟩ | e
  · cases rx; cases ry
    rw [e] at p
    exact ⟨i, j, rfl, rfl, Po_ok p hr (hg ρ H i j)⟩
  · rw [e] at p; exact p.elim
theorem vI {Cn : Int → Int → Prop} {g : Int → Int → V} {g' : Int → Int → Va} {k : Va → Va → Hs → Rs Va} (hg : ∀ ρ H i j, Rp (ctOf X) ρ H (g' i j) (g i j)) (hk : ∀ x y h, (∃ i j, x = .int i ∧ y = .int j ∧ Cn i j ∧ k x y h = .ok (g' i j) h) ∨ k x y h = .bad) : VOp (ctOf X) (rI Cn g) k := by
  intro ρ H h x y v u W Q hr rx ry p
  rcases hk x y h with ⟨i, j, rfl, rfl, c, e⟩ | e
  · cases rx; cases ry
    rw [e] at p
    exact ⟨i, j, rfl, rfl, c, Po_ok p hr (hg ρ H i j)⟩
  · rw [e] at p; exact p.elim
/-- a value-level case: what is not served is bad -/
theorem ks_sub : OpK X (binaryOp .Sub) kSub := ⟨_, op_sub, vI0 (fun _ _ _ _ => .int _) fun x y h => by
  cases x <;> cases y <;> first | exact .inr rfl | exact .inl ⟨_, _, rfl, rfl, rfl⟩⟩
theorem ks_fdv : OpK X (binaryOp .FloorDiv) kFdv := ⟨_, op_fdiv, vI (g' := fun i j => .int (i / j)) (fun _ _ _ _ => .int _) fun x y h => by
  cases x <;> cases y <;> first
    | exact .inr rfl
    | (rename_i i j
       by_cases c : 0 < j ∧ j < 1073741824
       · exact .inl ⟨i, j, rfl, rfl, c, if_pos c⟩
       · exact .inr (if_neg c))⟩
theorem ks_mod : OpK X (binaryOp .Mod) kMod := ⟨_, op_mod, vI (g' := fun i j => .int (i % j)) (fun _ _ _ _ => .int _) fun x y h => by
  cases x <;> cases y <;> first
    | exact .inr rfl
    | (rename_i i j
       by_cases c : 0 < j
       · exact .inl ⟨i, j, rfl, rfl, c, if_pos c⟩
       · exact .inr (if_neg c))⟩
theorem ks_pow : OpK X (binaryOp .Pow) kPow := ⟨_, op_pow, vI (g' := fun i j => .int (i ^ j.toNat)) (fun _ _ _ _ => .int _) fun x y h => by
  cases x <;> cases y <;> first
    | exact .inr rfl
    | (rename_i i j
       by_cases c : 0 ≤ j ∧ j ≤ 1000000 ∧ i.natAbs < 2 ^ 64
       · exact .inl ⟨i, j, rfl, rfl, c, if_pos c⟩
       · exact .inr (if_neg c))⟩
theorem ks_le : OpK X (compareOp .LtE) kLe := ⟨_, op_le, vI0 (fun _ _ _ _ => .bl _) fun x y h => by
  cases x <;> cases y <;> first | exact .inr rfl | exact .inl ⟨_, _, rfl, rfl, rfl⟩⟩
theorem ks_gt : OpK X (compareOp .Gt) kGt := ⟨_, op_gt, vI0 (fun _ _ _ _ => .bl _) fun x y h => by
  cases x <;> cases y <;> first | exact .inr rfl | exact .inl ⟨_, _, rfl, rfl, rfl⟩⟩
theorem ks_ge : OpK X (compareOp .GtE) kGe := ⟨_, op_ge, vI0 (fun _ _ _ _ => .bl _) fun x y h => by
  cases x <;> cases y <;> first | exact .inr rfl | exact .inl ⟨_, _, rfl, rfl, rfl⟩⟩
theorem ks_neg : UnK X (unaryOp .USub) kNeg := ⟨_, un_neg, by
  intro ρ H h x v W Q hr rx p
  cases x <;> first
    | exact False.elim p
    | (cases rx; exact ⟨_, rfl, Po_ok p hr (.int _)⟩)⟩
theorem ks_lt : OpK X (compareOp .Lt) kLt := ⟨_, OpR.or op_lt op_lt_str, by
  intro ρ H h x y v u W Q hr rx ry p
  cases x <;> cases y <;> first
    | exact False.elim p
    | (cases rx; cases ry; exact .inl ⟨_, _, rfl, rfl, Po_ok p hr (.bl _)⟩)
    | (cases rx; cases ry; exact .inr ⟨_, _, rfl, rfl, Po_ok p hr (.bl _)⟩)⟩
theorem ks_mul : OpK X (binaryOp .Mult) kMul := ⟨_, OpR.or op_mul op_rep, by
  intro ρ H h x y v u W Q hr rx ry p
  cases x <;> cases y <;> first
    | exact False.elim p
    | (rename_i i j
       cases rx; cases ry
       have p : Po _ _ _ _ _ _ (if _ then _ else _) := p
       split at p
       · rename_i c
         exact .inl ⟨i, j, rfl, rfl, c, Po_ok p hr (.int _)⟩
       · exact p.elim)
    | (rename_i n j
       cases ry
       have p : Po _ _ _ _ _ _ (match h[n]? with | some (.lst xs) => _ | _ => _) := p
       split at p
       · rename_i xs hn
         split at p
         · rename_i c
           obtain ⟨a, vs, rfl, ha, hl, rl⟩ := hr.ls_ hn rx
           have e := rl.length
           have rr : RpL (ctOf X) ρ H (List.replicate j.toNat xs).flatten (List.replicate j.toNat vs).flatten := by
             generalize j.toNat = m
             induction m with
             | zero => exact .nil
             | succ m ih => rw [List.replicate_succ, List.replicate_succ, List.flatten_cons, List.flatten_cons]; exact rl.append ih
           obtain ⟨q1, q2⟩ := newL_of hr rr p
           exact .inr ⟨a, j, vs, rfl, rfl, hl, c.1, c.2.1, by rw [← e, line_eq]; exact c.2.2, q2⟩
         · exact p.elim
       · exact p.elim)⟩
theorem ks_add : OpK X (binaryOp .Add) kAdd := ⟨_, OpR.or (OpR.or op_add op_add_str) (OpR.or op_cat op_catT), by
  intro ρ H h x y v u W Q hr rx ry p
  cases x <;> cases y <;> first
    | exact False.elim p
    | (cases rx; cases ry; exact .inl (.inl ⟨_, _, rfl, rfl, Po_ok p hr (.int _)⟩))
    | (rename_i x y
       cases rx; cases ry
       have p : Po _ _ _ _ _ _ (if x.length + y.length ≤ 16777216 then _ else _) := p
       split at p
       · rename_i c
         refine .inl (.inr ⟨_, _, rfl, rfl, by rw [str_len, str_len, line_eq]; exact c, ?_⟩)
         rw [str_app]
         exact Po_ok p hr (.str _)
       · exact p.elim)
    | (rename_i n m
       have p : Po _ _ _ _ _ _ (match h[n]?, h[m]? with | some (.lst xs), some (.lst ys) => _ | _, _ => _) := p
       split at p
       · rename_i xs ys hn hm
         obtain ⟨a, vs, rfl, ha, hl, rl⟩ := hr.ls_ hn rx
         obtain ⟨b, us, rfl, hb, hl2, rl2⟩ := hr.ls_ hm ry
         obtain ⟨q1, q2⟩ := newL_of hr (rl.append rl2) p
         exact .inr (.inl ⟨a, b, vs, us, rfl, rfl, hl, hl2, by rw [List.length_append] at q1; exact q1, q2⟩)
       · exact p.elim)
    | (rename_i xs ys
       cases rx with
       | tup h1 r1 =>
       cases ry with
       | tup h2 r2 =>
       rename_i vs a us b
       have p : Po _ _ _ _ _ _ (if xs ≠ [] ∧ xs.length + ys.length ≤ 16777216 then _ else _) := p
       split at p
       · rename_i c
         refine .inr (.inr ⟨a, b, vs, us, rfl, rfl, h1, h2, ?_, by rw [← r1.length, ← r2.length, line_eq]; exact c.2, fun e => ?_, fun e q hq => ?_⟩)
         · intro e
           subst e
           have := r1.length
           exact c.1 (List.eq_nil_of_length_eq_zero (by simpa using this))
         · subst e
           have e2 : ys = [] := List.eq_nil_of_length_eq_zero (by have := r2.length; simpa using this)
           subst e2
           refine Po_ok p hr ?_
           rw [List.append_nil]
           exact .tup h1 r1
         · have e := ext_new (C := ctOf X) (ρ := ρ) (o := .tup (vs ++ us)) hq
           exact p ρ _ _ e ⟨hr.len, hr.nd, fun n o a' hn ha' => by
             obtain ⟨w, hw⟩ := hr.sm_ ha'
             have q' := hr.ob n o a' hn ha'
             revert q'
             cases o with
             | lst zs => rintro ⟨ws, e1, e2⟩; exact ⟨ws, by rw [upd_ne (ne_of_none hw hq)]; exact e1, e2.mono e⟩
             | dct k => rintro ⟨ws, e1, e2⟩; exact ⟨ws, by rw [upd_ne (ne_of_none hw hq)]; exact e1, e2.mono e⟩⟩ (.tup (SqT.of upd_same) ((r1.append r2).mono e))
       · exact p.elim)⟩
end
end Fw

set_option Elab.async false
set_option linter.all false
set_option maxRecDepth 100000
set_option maxHeartbeats 2000000
set_option autoImplicit false
namespace Fw
open PySem PySem.Spec L2

section
variable {C : Ct} {ρ : List Addr} {H : Hp} {h : Hs}
/-- a new tuple: nothing is tracked of it -/
theorem HR.tup_ (hr : HR C ρ h H) {q : Addr} {o : HO} (hq : H q = none) : HR C ρ h (upd H q o) := by
  have e := ext_new (C := C) (ρ := ρ) (o := o) hq
  refine ⟨hr.len, hr.nd, fun n ob a hn ha => ?_⟩
  obtain ⟨w, hw⟩ := hr.sm_ ha
  have q' := hr.ob n ob a hn ha
  revert q'
  cases ob with
  | lst zs => rintro ⟨ws, e1, e2⟩; exact ⟨ws, by rw [upd_ne (ne_of_none hw hq)]; exact e1, e2.mono e⟩
  | dct k => rintro ⟨ws, e1, e2⟩; exact ⟨ws, by rw [upd_ne (ne_of_none hw hq)]; exact e1, e2.mono e⟩
theorem Po_tup {W : XK} {Q : VK} {xs : List Va} {vs : List V} (hr : HR C ρ h H) (r : RpL C ρ H xs vs) (p : Po C (Rp C) W Q ρ H (.ok (.tup xs) h)) : ∀ q, H q = none → Q (.ref q) (upd H q (.tup vs)) := fun q hq =>
  p ρ _ _ (ext_new hq) (hr.tup_ hq) (.tup (SqT.of upd_same) (r.mono (ext_new hq)))
end

/-! ### displays -/
def sTup (a : Sm (List Va)) : Sx := bnd a fun xs _ h => if xs.length ≤ 16777216 then .ok (.tup xs) h else .bad
def sLst (a : Sm (List Va)) : Sx := bnd a fun xs _ h => newL xs h
section
variable {X : Cx} {W : WX} {es : List Expr} {f : Sm (List Va)} {pos : Pos}
theorem se_tup {x1} (h : PA X es (tAr (ctOf X) W f)) : PE X (.Tuple es x1 pos) (tE (ctOf X) W (sTup f)) := pe_of (pe_tup h) fun σ H Q h => tX_bnd h fun ρ H1 e h1 xs vs hs hr rv p => by
  split at p
  · rename_i hl
    exact ⟨by rw [← rv.length, line_eq]; exact hl, Po_tup hr rv p⟩
  · exact p.elim
theorem se_lst (h : PA X es (tAr (ctOf X) W f)) : PE X (.List es pos) (tE (ctOf X) W (sLst f)) := pe_of (pe_lst h) fun σ H Q h => tX_bnd h fun ρ H1 e h1 xs vs hs hr rv p => newL_of hr rv p
end

/-! ### data read to any depth -/
def mapO {α β : Type} (f : α → Option β) : List α → Option (List β)
  | [] => some []
  | x :: xs => match f x, mapO f xs with
    | some y, some ys => some (y :: ys)
    | _, _ => none
def rdV (h : Hs) : Nat → Va → Option PyData
  | 0, _ => none
  | _ + 1, .non => some .none
  | _ + 1, .bl b => some (.bool b)
  | _ + 1, .int i => some (.int i)
  | _ + 1, .str x => some (.str ⟨x.toArray⟩)
  | n + 1, .tup xs => (mapO (rdV h n) xs).map .tuple
  | n + 1, .ros xs => (mapO (rdV h n) xs).map .list
  | n + 1, .loc m => match h[m]? with
    | some (.lst xs) => (mapO (rdV h n) xs).map .list
    | _ => none
  | _ + 1, .fn _ => none
  | _ + 1, .ty _ => none
  | _ + 1, .rg _ _ _ => none
theorem mapO_dp {C : Ct} {ρ : List Addr} {H : Hp} {f : Va → Option PyData} (hf : ∀ x v d, Rp C ρ H x v → f x = some d → Dp C.K H v d) : ∀ (xs : List Va) (vs : List V) (ds : List PyData), RpL C ρ H xs vs → mapO f xs = some ds → DpAll C.K H vs ds
  | [], _, _, .nil, e => by cases e; exact .nil
  | x :: xs, _, _, .cons r rs, e => by
    unfold mapO at e
    split at e
    · rename_i y ys h1 h2
      cases e
      exact .cons (hf x _ _ r h1) (mapO_dp hf xs _ _ rs h2)
    · cases e
theorem rdV_dp {C : Ct} {ρ : List Addr} {H : Hp} {h : Hs} (hr : HR C ρ h H) : ∀ (n : Nat) (x : Va) (v : V) (d : PyData), Rp C ρ H x v → rdV h n x = some d → Dp C.K H v d
  | 0, _, _, _, _, e => by cases e
  | _ + 1, _, _, _, .non, e => by cases e; exact .non
  | _ + 1, _, _, _, .bl b, e => by cases e; exact .bl b
  | _ + 1, _, _, _, .int b, e => by cases e; exact .int b
  | _ + 1, _, _, _, .str b, e => by cases e; exact .str _
  | n + 1, _, _, _, .tup (xs := xs) hq rs, e => by
    unfold rdV at e
    cases q : mapO (rdV h n) xs with
    | none => rw [q] at e; cases e
    | some ds => rw [q] at e; cases e; exact .tup hq (mapO_dp (rdV_dp hr n) _ _ _ rs q)
  | n + 1, _, _, _, .ros (xs := xs) hq rs, e => by
    unfold rdV at e
    cases q : mapO (rdV h n) xs with
    | none => rw [q] at e; cases e
    | some ds => rw [q] at e; cases e; exact .lst hq.sq (mapO_dp (rdV_dp hr n) _ _ _ rs q)
  | n + 1, _, _, _, .loc (n := m) hq, e => by
    unfold rdV at e
    split at e
    · rename_i xs hm
      obtain ⟨vs, e1, e2⟩ := hr.ob m _ _ hm hq
      cases q : mapO (rdV h n) xs with
      | none => rw [q] at e; cases e
      | some ds => rw [q] at e; cases e; exact .lst (SqL.of e1) (mapO_dp (rdV_dp hr n) _ _ _ e2 q)
    · cases e
  | _ + 1, _, _, _, .fn _, e => by cases e
  | _ + 1, _, _, _, .ty _, e => by cases e
  | _ + 1, _, _, _, .rg _, e => by cases e

def kEqD (neg : Bool) (x y : Va) (h : Hs) : Rs Va := match rdV h 24 x, rdV h 24 y with
  | some d, some e => if SeqAt.shaped d = true ∧ SeqAt.shaped e = true then .ok (.bl (if neg then !PyData.eqv d e else PyData.eqv d e)) h else .bad
  | _, _ => .bad
@[simp] def kEq : Va → Va → Hs → Rs Va
  | .int i, .int j => okB (decide (i = j))
  | .str x, .str y => okB (decide (x = y))
  | x, y => kEqD false x y
@[simp] def kNe : Va → Va → Hs → Rs Va
  | .int i, .int j => okB (!decide (i = j))
  | .str x, .str y => okB (!decide (x = y))
  | x, y => kEqD true x y
section
variable {X : Cx}
theorem str_eq {x y : List Nat} : decide ((V.str ⟨x.toArray⟩) = V.str ⟨y.toArray⟩) = decide (x = y) := by
  by_cases e : x = y
  · subst e; simp
  · rw [decide_eq_false e, decide_eq_false]
    intro q
    injection q with q
    injection q with q
    exact e (by simpa using congrArg Array.toList q)
theorem int_eq {i j : Int} : decide (V.int i = V.int j) = decide (i = j) := by
  by_cases e : i = j
  · subst e; simp
  · rw [decide_eq_false e, decide_eq_false]
    intro q
    injection q with q
    exact e q
theorem vEqD {neg : Bool} {r : R2} (hrD : ∀ x y H Q, (∃ d e, Dp X.K H x d ∧ Dp X.K H y e ∧ SeqAt.shaped d = true ∧ SeqAt.shaped e = true ∧ Q (.bl (if neg then !PyData.eqv d e else PyData.eqv d e)) H) → r x y H Q) : VOp (ctOf X) r (kEqD neg) := by
  intro ρ H h x y v u W Q hr rx ry p
  unfold kEqD at p
  split at p
  · rename_i d e hd he
    split at p
    · rename_i c
      exact hrD v u H Q ⟨d, e, rdV_dp hr 24 x v d rx hd, rdV_dp hr 24 y u e ry he, c.1, c.2, Po_ok p hr (.bl _)⟩
    · exact p.elim
  · exact p.elim
theorem ks_eq (hu : X.A.units + 64 < cLine) : OpK X (compareOp .Eq) kEq := ⟨_, OpR.or op_eq (op_eqD hu), by
  intro ρ H h x y v u W Q hr rx ry p
  have gen : Po (ctOf X) (Rp (ctOf X)) W Q ρ H (kEqD false x y h) → rEq v u H Q ∨ rEqD X.K v u H Q := fun p => .inr (vEqD (neg := false) (fun _ _ _ _ z => z) ρ H h x y v u W Q hr rx ry p)
  cases x <;> cases y <;> first
    | exact gen p
    | (cases rx; cases ry; refine .inl ⟨rfl, ?_⟩; rw [int_eq]; exact Po_ok p hr (.bl _))
    | (cases rx; cases ry; refine .inl ⟨rfl, ?_⟩; rw [str_eq]; exact Po_ok p hr (.bl _))⟩
theorem ks_ne (hu : X.A.units + 64 < cLine) : OpK X (compareOp .NotEq) kNe := ⟨_, OpR.or op_ne (op_neD hu), by
  intro ρ H h x y v u W Q hr rx ry p
  have gen : Po (ctOf X) (Rp (ctOf X)) W Q ρ H (kEqD true x y h) → rNe v u H Q ∨ rNeD X.K v u H Q := fun p => .inr (vEqD (neg := true) (fun _ _ _ _ z => z) ρ H h x y v u W Q hr rx ry p)
  cases x <;> cases y <;> first
    | exact gen p
    | (cases rx; cases ry; refine .inl ⟨rfl, ?_⟩; rw [int_eq]; exact Po_ok p hr (.bl _))
    | (cases rx; cases ry; refine .inl ⟨rfl, ?_⟩; rw [str_eq]; exact Po_ok p hr (.bl _))⟩
end
/-! ### identity: None, built-in types, truth values -/
@[simp] def kIs (neg : Bool) : Va → Va → Hs → Rs Va
  | .non, .non => okB (!neg)
  | .ty a, .ty b => okB (if neg then !decide (a = b) else decide (a = b))
  | .bl a, .bl b => okB (if neg then !decide (a = b) else decide (a = b))
  | _, .non => okB neg
  | _, _ => fun _ => .bad
section
variable {X : Cx}
theorem ks_is : OpK X (compareOp .Is) (kIs false) := ⟨_, OpR.or op_isN (OpR.or op_isTyB op_isBl), by
  intro ρ H h x y v u W Q hr rx ry p
  cases x <;> cases y <;> first
    | exact False.elim p
    | (cases rx; cases ry; exact .inr (.inl ⟨_, _, rfl, rfl, Po_ok p hr (.bl _)⟩))
    | (cases rx; cases ry; exact .inr (.inr ⟨_, _, rfl, rfl, Po_ok p hr (.bl _)⟩))
    | (cases rx <;> cases ry <;> exact .inl ⟨rfl, Po_ok p hr (.bl _)⟩)⟩
theorem ks_isn : OpK X (compareOp .IsNot) (kIs true) := ⟨_, OpR.or op_notN (OpR.or op_notTyB op_notBl), by
  intro ρ H h x y v u W Q hr rx ry p
  cases x <;> cases y <;> first
    | exact False.elim p
    | (cases rx; cases ry; exact .inr (.inl ⟨_, _, rfl, rfl, Po_ok p hr (.bl _)⟩))
    | (cases rx; cases ry; exact .inr (.inr ⟨_, _, rfl, rfl, Po_ok p hr (.bl _)⟩))
    | (cases rx <;> cases ry <;> exact .inl ⟨rfl, Po_ok p hr (.bl _)⟩)⟩
end

/-! ### items -/
def gIx : Va → Va → Hs → Option Va
  | .loc n, .int i, h => match h[n]? with
    | some (.lst xs) => atI xs i
    | _ => none
  | .ros xs, .int i, _ => atI xs i
  | .tup xs, .int i, _ => atI xs i
  | .str x, .int i, _ => if x.length ≤ 16777216 then (atI x i).map fun c => .str [c] else none
  | _, _, _ => none
def kIx (x y : Va) (h : Hs) : Rs Va := match gIx x y h with
  | some z => .ok z h
  | none => .bad
theorem atI_rel {C : Ct} {ρ : List Addr} {H : Hp} {xs : List Va} {vs : List V} (r : RpL C ρ H xs vs) {i : Int} {x : Va} (e : atI xs i = some x) : ∃ v, atI vs i = some v ∧ Rp C ρ H x v := by
  unfold atI at e ⊢
  rw [← r.length]
  cases q : ixN xs.length i with
  | none => rw [q] at e; cases e
  | some j =>
    rw [q] at e
    obtain ⟨v, h1, h2⟩ := r.get (i := j) e
    exact ⟨v, h1, h2⟩
section
variable {X : Cx} {W : WX} {a b : Expr} {fa fb : Sx} {pos : Pos}
theorem vIx : VOp (ctOf X) (rIx X.K) kIx := by
  intro ρ H h x y v u W Q hr rx ry p
  unfold kIx at p
  split at p
  · rename_i z hz
    cases x <;> cases y <;> first
      | (exact absurd hz (by intro q; cases q))
      | (rename_i n i
         cases ry
         have hz : (match h[n]? with | some (.lst xs) => atI xs i | _ => none) = some z := hz
         split at hz
         · rename_i xs hn
           obtain ⟨a, vs, rfl, ha, hl, rl⟩ := hr.ls_ hn rx
           obtain ⟨w, h1, h2⟩ := atI_rel rl hz
           exact .inl ⟨a, vs, i, w, rfl, rfl, SqL.of hl, h1, Po_ok p hr h2⟩
         · cases hz)
      | (rename_i xs i
         cases ry
         cases rx with
         | ros hq rl =>
         have hz : atI xs i = some z := hz
         obtain ⟨w, h1, h2⟩ := atI_rel rl hz
         exact .inl ⟨_, _, i, w, rfl, rfl, hq.sq, h1, Po_ok p hr h2⟩)
      | (rename_i xs i
         cases ry
         cases rx with
         | tup hq rl =>
         have hz : atI xs i = some z := hz
         obtain ⟨w, h1, h2⟩ := atI_rel rl hz
         exact .inr (.inl ⟨_, _, i, w, rfl, rfl, hq, h1, Po_ok p hr h2⟩))
      | (rename_i s i
         cases ry
         cases rx
         have hz : (if s.length ≤ 16777216 then (atI s i).map fun c => Va.str [c] else none) = some z := hz
         split at hz
         · rename_i hl
           cases q : atI s i with
           | none => rw [q] at hz; cases hz
           | some c =>
             rw [q] at hz
             cases hz
             exact .inr (.inr ⟨_, i, c, rfl, rfl, by rw [str_len, line_eq]; exact hl, q, Po_ok p hr (.str [c])⟩)
         · cases hz)
  · exact p.elim
theorem se_ix (ha : PE X a (tE (ctOf X) W fa)) (hb : PE X b (tE (ctOf X) W fb)) (hs : PlainIx b := by exact fun _ _ => rfl) : PE X (.Subscript a b pos) (tE (ctOf X) W (s2 kIx fa fb)) := pe_of (pe_ix ix_seq ha hb hs) (t2_of vIx)
end

/-! ### slices -/
def sNo : Sm (Option Int) := fun _ h => .ok none h
def sSo (f : Sx) : Sm (Option Int) := bnd f fun x _ h => match x with
  | .int i => .ok (some i) h
  | _ => .bad
abbrev tOx (C : Ct) (W : WX) (f : Sm (Option Int)) : TO := tX C (fun _ _ a b => a = b) W f
def cutA {α : Type} (xs : List α) (lo hi : Option Int) : List α := (xs.drop (HT.sIx xs.length 0 lo)).take (HT.sIx xs.length xs.length hi - HT.sIx xs.length 0 lo)
def kSl : Va → Option Int → Option Int → Hs → Rs Va
  | .str x, lo, hi => fun h => if x.length ≤ 16777216 then .ok (.str (cutA x lo hi)) h else .bad
  | .loc n, lo, hi => fun h => match h[n]? with
    | some (.lst xs) => newL (cutA xs lo hi) h
    | _ => .bad
  | .ros xs, lo, hi => newL (cutA xs lo hi)
  | .tup xs, lo, hi => fun h => if HT.sIx xs.length 0 lo = 0 ∧ HT.sIx xs.length xs.length hi = xs.length then .bad else .ok (.tup (cutA xs lo hi)) h
  | _, _, _ => fun _ => .bad
def sSl (f : Sx) (lo hi : Sm (Option Int)) : Sx := bnd f fun x => bnd lo fun l => bnd hi fun u => vl (kSl x l u)
theorem cut_rel {C : Ct} {ρ : List Addr} {H : Hp} {xs : List Va} {vs : List V} (r : RpL C ρ H xs vs) (lo hi : Option Int) : RpL C ρ H (cutA xs lo hi) (cutV vs lo hi) := by
  unfold cutA cutV
  rw [← r.length]
  exact (r.drop _).take _
section
variable {X : Cx} {W : WX} {e : Expr} {lo hi : Option Expr} {fe : Sx} {fl fh : Sm (Option Int)} {pos p2 : Pos}
theorem so_none : PO X none (tOx (ctOf X) W sNo) := ⟨fun pins s σ H Q I ⟨ρ, e, h, hs, hr, p⟩ => po_none.run pins s σ H Q I (p ρ H none .refl hr rfl)⟩
theorem so_some (h : PE X e (tE (ctOf X) W fe)) : PO X (some e) (tOx (ctOf X) W (sSo fe)) := ⟨fun pins s σ H Q I q => (po_some h).run pins s σ H Q I (tX_bnd q fun ρ H1 e h1 x v hs hr rv p => by
  cases x <;> first
    | exact False.elim p
    | (cases rv; exact ⟨_, rfl, Po_ok p hr rfl⟩))⟩
theorem se_sl (he : PE X e (tE (ctOf X) W fe)) (hl : PO X lo (tOx (ctOf X) W fl)) (hh : PO X hi (tOx (ctOf X) W fh)) : PE X (.Subscript e (.Slice lo hi none p2) pos) (tE (ctOf X) W (sSl fe fl fh)) :=
  pe_of (pe_slice (SlR.or sl_list (SlR.or sl_str sl_tup)) he hl hh) fun σ H Q h => tX_bnd h fun ρ H1 e h1 x v hs hr rv p => Po_bnd hs hr p fun ρ2 H2 h2 l l' e2 hs2 hr2 rl p2 => Po_bnd hs2 hr2 p2 fun ρ3 H3 h3 u u' e3 hs3 hr3 ru p3 => by
    subst rl ru
    have rv := rv.mono (e2.trans e3)
    cases x with
    | str x =>
      cases rv
      have p3 : Po _ _ _ _ _ _ (if x.length ≤ 16777216 then _ else _) := p3
      split at p3
      · rename_i hl
        refine .inr (.inl ⟨_, rfl, by rw [str_len, line_eq]; exact hl, ?_⟩)
        have e : cutS ⟨x.toArray⟩ l u = ⟨(cutA x l u).toArray⟩ := by unfold cutS cutA; rw [str_len]
        rw [e]
        exact Po_ok p3 hr3 (.str _)
      · exact p3.elim
    | loc n =>
      have p3 : Po _ _ _ _ _ _ (match h3[n]? with | some (.lst xs) => _ | _ => _) := p3
      split at p3
      · rename_i xs hn
        obtain ⟨a, vs, rfl, ha, hl, rl⟩ := hr3.ls_ hn rv
        exact .inl ⟨a, vs, rfl, SqL.of hl, (newL_of hr3 (cut_rel rl l u) p3).2⟩
      · exact p3.elim
    | ros xs =>
      cases rv with
      | ros hq rl => exact .inl ⟨_, _, rfl, hq.sq, (newL_of hr3 (cut_rel rl l u) p3).2⟩
    | tup xs =>
      cases rv with
      | tup hq rl =>
      have p3 : Po _ _ _ _ _ _ (if _ then _ else _) := p3
      split at p3
      · exact p3.elim
      · rename_i c
        exact .inr (.inr ⟨_, _, rfl, hq, by rw [← rl.length]; exact c, Po_tup hr3 (cut_rel rl l u) p3⟩)
    | _ => exact p3.elim
end

/-! ### truth, tests, and, or, not -/
@[simp] def trA : Va → Hs → Option Bool
  | .non, _ => some false
  | .bl b, _ => some b
  | .int i, _ => some (i != 0)
  | .str x, _ => if x.length ≤ 16777216 then some ((x.length : Int) != 0) else none
  | .tup xs, _ => some (!xs.isEmpty)
  | .ros xs, _ => some (!xs.isEmpty)
  | .loc n, h => match h[n]? with
    | some (.lst xs) => some (!xs.isEmpty)
    | _ => none
  | _, _ => none
@[simp] def asB : Va → Option Bool
  | .bl b => some b
  | _ => none
/-- a test by truth; a test whose value is a truth value -/
def sTru (f : Sx) : Sm Bool := bnd f fun x _ h => match trA x h with
  | some b => .ok b h
  | none => .bad
def sBl (f : Sx) : Sm Bool := bnd f fun x _ h => match asB x with
  | some b => .ok b h
  | none => .bad
def sNot (t : Sm Bool) : Sm Bool := bnd t fun b _ h => .ok (!b) h
def sAnd (t u : Sm Bool) : Sm Bool := bnd t fun b => if b = true then u else fun _ h => .ok false h
def sOr (t u : Sm Bool) : Sm Bool := bnd t fun b => if b = true then (fun _ h => .ok true h) else u
def sIte (t : Sm Bool) (a b : Sx) : Sx := bnd t fun c => if c = true then a else b
def byB {α : Type} (o : Option Bool) (t f : Sm α) : Sm α := match o with
  | some true => t
  | some false => f
  | none => fun _ _ => .bad
def sAndV (a b : Sx) : Sx := bnd a fun x => byB (asB x) b (sK (.bl false))
def sOrV (a b : Sx) : Sx := bnd a fun x => byB (asB x) (sK (.bl true)) b
def sNotV (a : Sx) : Sx := bnd a fun x _ h => match asB x with
  | some c => .ok (.bl (!c)) h
  | none => .bad
/-- a op b op' c -/
def sChn (k k' : Va → Va → Hs → Rs Va) (a b c : Sx) : Sx := bnd a fun x => bnd b fun y => bnd (vl (k x y)) fun z => byB (asB z) (bnd c fun w => vl (k' y w)) (sK (.bl false))
theorem byB_cases {C : Ct} {α β : Type} {rel : List Addr → Hp → α → β → Prop} {W : XK} {Q : β → Hp → Prop} {ρ : List Addr} {H : Hp} {x : Va} {t f : Sm α} {e : En} {h : Hs} (p : Po C rel W Q ρ H (byB (asB x) t f e h)) : (x = .bl true ∧ Po C rel W Q ρ H (t e h)) ∨ (x = .bl false ∧ Po C rel W Q ρ H (f e h)) := by
  cases x with
  | bl b => cases b with
    | true => exact .inl ⟨rfl, p⟩
    | false => exact .inr ⟨rfl, p⟩
  | _ => exact p.elim
theorem isEmpty_rp {C : Ct} {ρ : List Addr} {H : Hp} {xs : List Va} {vs : List V} (r : RpL C ρ H xs vs) : xs.isEmpty = vs.isEmpty := by cases r <;> rfl
theorem trA_of {C : Ct} {ρ : List Addr} {H : Hp} {h : Hs} (hr : HR C ρ h H) {x : Va} {v : V} (r : Rp C ρ H x v) {b : Bool} (e : trA x h = some b) : TruV C.K v H b := by
  cases r with
  | non => cases e; rfl
  | bl c => cases e; rfl
  | int i => cases e; rfl
  | str x =>
    have e : (if x.length ≤ 16777216 then some ((x.length : Int) != 0) else none) = some b := e
    split at e
    · rename_i hl
      cases e
      exact ⟨by rw [str_len, line_eq]; exact hl, by rw [str_len]⟩
    · cases e
  | tup hq rl => cases e; exact .inr (.inl ⟨_, hq, by rw [isEmpty_rp rl]⟩)
  | ros hq rl => cases e; exact .inl ⟨_, hq.sq, by rw [isEmpty_rp rl]⟩
  | loc hq =>
    rename_i n a
    have e : (match h[n]? with | some (.lst xs) => some (!xs.isEmpty) | _ => none) = some b := e
    split at e
    · rename_i xs hn
      cases e
      obtain ⟨vs, e1, e2⟩ := hr.ob n _ _ hn hq
      exact .inl ⟨vs, SqL.of e1, by rw [isEmpty_rp e2]⟩
    · cases e
  | fn _ => cases e
  | ty _ => cases e
  | rg _ => cases e
theorem asB_of {x : Va} {b : Bool} (e : asB x = some b) : x = .bl b := by
  cases x <;> first | (cases e; rfl) | cases e
section
variable {X : Cx} {W : WX} {a b c : Expr} {fa fb fc : Sx} {ta tb tc : Sm Bool} {pos : Pos} {rest : List Expr}
abbrev tB_ (X : Cx) (W : WX) (t : Sm Bool) : TT := tTe (ctOf X) W t
theorem st_tru (ha : PE X a (tE (ctOf X) W fa)) (he : ∀ whole, isTrue a X.env whole = (do let v ← whole; standAt a.pos; holding [v] (truthy v)) := by intro _; rfl) : PT X a (tB_ X W (sTru fa)) :=
  pt_of (pt_truth ha he) fun σ H Q h => tX_bnd h fun ρ H1 e h1 x v hs hr rv p => by
    split at p
    · rename_i b hb
      exact ⟨b, trA_of hr rv hb, Po_ok p hr rfl⟩
    · exact p.elim
theorem st_of {t : TE} (ha : PT X a (tTest t)) (i : ∀ σ H Q, tE (ctOf X) W fa σ H Q → t σ H Q) : PT X a (tB_ X W (sBl fa)) :=
  pt_of ha fun σ H Q h => i σ H _ (tX_bnd h fun ρ H1 e h1 x v hs hr rv p => by
    split at p
    · rename_i b hb
      have := asB_of hb
      subst this
      cases rv
      exact ⟨b, rfl, Po_ok p hr rfl⟩
    · exact p.elim)
theorem st_com {op : CmpOp} {k : Va → Va → Hs → Rs Va} (ho : OpK X (compareOp op) k) (ha : PE X a (tE (ctOf X) W fa)) (hb : PE X b (tE (ctOf X) W fb)) (hm : behindInMarks op b = false := by first | exact nomark _ | rfl) : PT X (.Compare a [op] [b] pos) (tB_ X W (sBl (s2 k fa fb))) := by
  obtain ⟨r, h1, h2⟩ := ho
  exact st_of (pt_cmpR h1 ha hb hm) (t2_of h2)
theorem st_not (ha : PT X a (tB_ X W ta)) : PT X (.UnaryOp .Not a pos) (tB_ X W (sNot ta)) := pt_of (pt_not ha) fun σ H Q h => tX_bnd h fun ρ H1 e h1 x v hs hr rv p => by
  subst rv
  exact Po_ok p hr rfl
theorem sw_and1 (ha : PT X a (tB_ X W ta)) : PW X (.BoolOp .And [a] pos) (tB_ X W ta) := pw_and1 ha
theorem sw_or1 (ha : PT X a (tB_ X W ta)) : PW X (.BoolOp .Or [a] pos) (tB_ X W ta) := pw_or1 ha
theorem sw_and (ha : PT X a (tB_ X W ta)) (hb : PW X (.BoolOp .And (b :: rest) pos) (tB_ X W tb)) : PW X (.BoolOp .And (a :: b :: rest) pos) (tB_ X W (sAnd ta tb)) := pw_of (pw_and ha hb) fun σ H Q h => tX_bnd h fun ρ H1 e h1 x v hs hr rv p => by
  subst rv
  cases x with
  | true => exact iteT ⟨ρ, e, h1, hs, hr, p⟩
  | false => exact iteF (Po_ok p hr rfl)
theorem sw_or (ha : PT X a (tB_ X W ta)) (hb : PW X (.BoolOp .Or (b :: rest) pos) (tB_ X W tb)) : PW X (.BoolOp .Or (a :: b :: rest) pos) (tB_ X W (sOr ta tb)) := pw_of (pw_or ha hb) fun σ H Q h => tX_bnd h fun ρ H1 e h1 x v hs hr rv p => by
  subst rv
  cases x with
  | true => exact iteT (Po_ok p hr rfl)
  | false => exact iteF ⟨ρ, e, h1, hs, hr, p⟩
theorem se_ite (hc : PT X c (tB_ X W tc)) (ha : PE X a (tE (ctOf X) W fa)) (hb : PE X b (tE (ctOf X) W fb)) : PE X (.IfExp c a b pos) (tE (ctOf X) W (sIte tc fa fb)) := pe_of (pe_ifExp hc ha hb) fun σ H Q h => tX_bnd h fun ρ H1 e h1 x v hs hr rv p => by
  subst rv
  cases x with
  | true => exact iteT ⟨ρ, e, h1, hs, hr, p⟩
  | false => exact iteF ⟨ρ, e, h1, hs, hr, p⟩
theorem se_one {op} (h : PE X a (tE (ctOf X) W fa)) : PE X (.BoolOp op [a] pos) (tE (ctOf X) W fa) := pe_one h
theorem se_and (ha : PE X a (tE (ctOf X) W fa)) (hb : PE X (.BoolOp .And (b :: rest) pos) (tE (ctOf X) W fb)) : PE X (.BoolOp .And (a :: b :: rest) pos) (tE (ctOf X) W (sAndV fa fb)) := pe_of (pe_and ha hb) fun σ H Q h => tX_bnd h fun ρ H1 e h1 x v hs hr rv p => by
  rcases byB_cases p with ⟨rfl, p⟩ | ⟨rfl, p⟩
  · cases rv
    exact ⟨true, rfl, iteT ⟨ρ, e, h1, hs, hr, p⟩⟩
  · cases rv
    exact ⟨false, rfl, iteF (Po_ok p hr (.bl _))⟩
theorem se_or (ha : PE X a (tE (ctOf X) W fa)) (hb : PE X (.BoolOp .Or (b :: rest) pos) (tE (ctOf X) W fb)) : PE X (.BoolOp .Or (a :: b :: rest) pos) (tE (ctOf X) W (sOrV fa fb)) := pe_of (pe_or ha hb) fun σ H Q h => tX_bnd h fun ρ H1 e h1 x v hs hr rv p => by
  rcases byB_cases p with ⟨rfl, p⟩ | ⟨rfl, p⟩
  · cases rv
    exact ⟨true, rfl, iteT (Po_ok p hr (.bl _))⟩
  · cases rv
    exact ⟨false, rfl, iteF ⟨ρ, e, h1, hs, hr, p⟩⟩
theorem se_not (ha : PE X a (tE (ctOf X) W fa)) : PE X (.UnaryOp .Not a pos) (tE (ctOf X) W (sNotV fa)) := pe_of (pe_not ha) fun σ H Q h => tX_bnd h fun ρ H1 e h1 x v hs hr rv p => by
  split at p
  · rename_i c hx
    have := asB_of hx
    subst this
    cases rv
    exact ⟨c, rfl, Po_ok p hr (.bl _)⟩
  · exact p.elim
theorem tChn_of {r r' : R2} {k k' : Va → Va → Hs → Rs Va} (h1 : VOp (ctOf X) r k) (h2 : VOp (ctOf X) r' k') : ∀ σ H Q, tE (ctOf X) W (sChn k k' fa fb fc) σ H Q → tChain r r' (tE (ctOf X) W fa) (tE (ctOf X) W fb) (tE (ctOf X) W fc) σ H Q := fun σ H Q h =>
  tX_bnd h fun ρ H1 e hh1 x v hs hr rv p => Po_bnd hs hr p fun ρ2 H2 hh2 y u e2 hs2 hr2 ru p2 => by
    refine h1 ρ2 H2 hh2 x y v u (fun c d H' => W c d σ H') _ hr2 (rv.mono e2) ru ?_
    have p2 : Po _ _ _ _ _ _ (bnd (vl (k x y)) (fun z => byB (asB z) (bnd fc fun w => vl (k' y w)) (sK (.bl false))) e hh2) := p2
    unfold bnd vl at p2
    cases q : k x y hh2 with
    | ok z h3 =>
      rw [q] at p2
      intro ρ3 H3 w e3 hr3 rw_
      have p3 := Po.mono e3 p2
      have hs3 := hs2.mono e3
      rcases byB_cases p3 with ⟨rfl, p3⟩ | ⟨rfl, p3⟩
      · cases rw_
        refine ⟨true, rfl, iteT (Po_bnd (k := fun w => vl (k' y w)) hs3 hr3 p3 fun ρ4 H4 h4 w' w e4 hs4 hr4 r4 p4 => ?_)⟩
        exact h2 ρ4 H4 h4 y w' u w _ Q hr4 ((ru.mono e3).mono e4) r4 p4
      · cases rw_
        exact ⟨false, rfl, iteF (Po_ok p3 hr3 (.bl _))⟩
    | ex z h3 => rw [q] at p2; exact p2
    | bad => rw [q] at p2; exact p2
theorem se_chn {op op' : CmpOp} {k k' : Va → Va → Hs → Rs Va} (ho : OpK X (compareOp op) k) (ho' : OpK X (compareOp op') k') (ha : PE X a (tE (ctOf X) W fa)) (hb : PE X b (tE (ctOf X) W fb)) (hc : PE X c (tE (ctOf X) W fc))
    (hm : lastMarks [op, op'] [b, c] = false := by with_unfolding_all rfl) : PE X (.Compare a [op, op'] [b, c] pos) (tE (ctOf X) W (sChn k k' fa fb fc)) := by
  obtain ⟨r, h1, h2⟩ := ho
  obtain ⟨r', h1', h2'⟩ := ho'
  exact pe_of (pe_chain h1 h1' ha hb hc hm) (tChn_of h2 h2')
theorem st_chn {op op' : CmpOp} {k k' : Va → Va → Hs → Rs Va} (ho : OpK X (compareOp op) k) (ho' : OpK X (compareOp op') k') (ha : PE X a (tE (ctOf X) W fa)) (hb : PE X b (tE (ctOf X) W fb)) (hc : PE X c (tE (ctOf X) W fc))
    (hm : lastMarks [op, op'] [b, c] = false := by with_unfolding_all rfl) : PT X (.Compare a [op, op'] [b, c] pos) (tB_ X W (sBl (sChn k k' fa fb fc))) := by
  obtain ⟨r, h1, h2⟩ := ho
  obtain ⟨r', h1', h2'⟩ := ho'
  exact st_of (pt_chain h1 h1' ha hb hc hm) (tChn_of h2 h2')
end
end Fw

set_option Elab.async false
set_option linter.all false
set_option maxRecDepth 100000
set_option maxHeartbeats 2000000
set_option autoImplicit false
namespace Fw
open PySem PySem.Spec L2

/-! ### blocks -/
def skip : Ss := fun e h => .nx e h
def never : Ss := fun _ _ => .bad
abbrev tS_ (X : Cx) (W : WX) (f : Ss) : TS := tSt (ctOf X) W f
section
variable {X : Cx} {W : WX} {st : Stmt} {rest : List Stmt} {f g : Ss} {pos : Pos} {e c : Expr} {fe : Sx} {ft : Sm Bool}
theorem ss_nil : PSs X [] (tS_ X W skip) := pss_of pss_nil fun D σ H ⟨ρ, e, h, hs, hr, p⟩ => p ρ H σ .refl hr hs
theorem PoS_seq {D : Ends} {ρ : List Addr} {H : Hp} {g : Ss} : ∀ {r : Rt}, PoS (ctOf X) W D ρ H (match r with | .nx e' h' => g e' h' | r => r) → PoS (ctOf X) W { D with nx := tS_ X W g D } ρ H r
  | .nx e' h', p => fun ρ' H' σ' ex hr hs => ⟨ρ', e', h', hs, hr, PoS.mono ex p⟩
  | .bk _ _, p => p
  | .ct _ _, p => p
  | .rt _ _, p => p
  | .ex _ _ _, p => p
  | .bad, p => p
theorem ss_cons (h1 : PS X st (tS_ X W f)) (h2 : PSs X rest (tS_ X W g)) : PSs X (st :: rest) (tS_ X W (seq f g)) := pss_of (pss_cons h1 h2) fun D σ H ⟨ρ, e, h, hs, hr, p⟩ => ⟨ρ, e, h, hs, hr, PoS_seq p⟩
theorem ss_one (h1 : PS X st (tS_ X W f)) : PSs X [st] (tS_ X W f) := pss_one h1
theorem sp_pass : PS X (.Pass pos) (tS_ X W skip) := ps_of ps_pass fun D σ H ⟨ρ, e, h, hs, hr, p⟩ => p ρ H σ .refl hr hs
theorem sp_break : PS X (.Break pos) (tS_ X W fun e h => .bk e h) := ps_of ps_break fun D σ H ⟨ρ, e, h, hs, hr, p⟩ => p ρ H σ .refl hr hs
theorem sp_cont : PS X (.Continue pos) (tS_ X W fun e h => .ct e h) := ps_of ps_continue fun D σ H ⟨ρ, e, h, hs, hr, p⟩ => p ρ H σ .refl hr hs
theorem sp_never : PS X st (tS_ X W never) := ps_of ps_never fun D σ H ⟨ρ, e, h, hs, hr, p⟩ => p
theorem ss_never {sts : List Stmt} : PSs X sts (tS_ X W never) := pss_of pss_never fun D σ H ⟨ρ, e, h, hs, hr, p⟩ => p
theorem sp_doc {x : Str} {j pos'} : PS X (.Expr (.Constant (.str x) j pos) pos') (tS_ X W skip) := ps_of ps_doc fun D σ H ⟨ρ, e, h, hs, hr, p⟩ => p ρ H σ .refl hr hs
def sDrop (f : Sx) : Ss := bnS f fun _ e h => .nx e h
def sRet (f : Sx) : Ss := bnS f fun x _ h => .rt x h
def sIf (t : Sm Bool) (a b : Ss) : Ss := bnS t fun c => if c = true then a else b
theorem sp_expr (he : PE X e (tE (ctOf X) W fe)) (hs : swapsWith e none pos.line X.env = pure false := by rfl) : PS X (.Expr e pos) (tS_ X W (sDrop fe)) := ps_of (ps_expr he hs) fun D σ H h => tSt_bnS h fun ρ H1 e h1 x v hs hr rv p => p ρ H1 σ .refl hr hs
theorem sp_ret (he : PE X e (tE (ctOf X) W fe)) : PS X (.Return (some e) pos) (tS_ X W (sRet fe)) := ps_of (ps_ret he) fun D σ H h => tSt_bnS h fun ρ H1 e h1 x v hs hr rv p => p ρ H1 v .refl hr rv
theorem sp_retN : PS X (.Return none pos) (tS_ X W fun _ h => .rt .non h) := ps_of ps_retN fun D σ H ⟨ρ, e, h, hs, hr, p⟩ => p ρ H .non .refl hr .non
theorem sp_if {a b : List Stmt} (hc : PT X c (tB_ X W ft)) (ha : PSs X a (tS_ X W f)) (hb : PSs X b (tS_ X W g)) : PS X (.If c a b pos) (tS_ X W (sIf ft f g)) := ps_of (ps_if hc ha hb) fun D σ H h => tSt_bnS h fun ρ H1 e h1 x v hs hr rv p => by
  subst rv
  cases x with
  | true => exact iteT ⟨ρ, e, h1, hs, hr, p⟩
  | false => exact iteF ⟨ρ, e, h1, hs, hr, p⟩
end

/-! ### targets -/
abbrev Tg := Va → En → Hs → Rs En
abbrev Tgs := List Va → En → Hs → Rs En
def PoG (C : Ct) (Q : L2.St → Hp → Prop) (ρ : List Addr) (H : Hp) : Rs En → Prop
  | .ok e h => ∀ ρ' H' σ', Ext C ρ H ρ' H' → HR C ρ' h H' → SR C ρ' H' e σ' → Q σ' H'
  | _ => False
theorem PoG.mono {C : Ct} {Q : L2.St → Hp → Prop} {ρ ρ1 : List Addr} {H H1 : Hp} (e : Ext C ρ H ρ1 H1) : ∀ {r : Rs En}, PoG C Q ρ H r → PoG C Q ρ1 H1 r
  | .ok _ _, p => fun ρ' H' v e' => p ρ' H' v (e.trans e')
  | .ex _ _, p => p
  | .bad, p => p
def tTg (C : Ct) (f : Tg) : TG := fun v σ H Q => ∃ ρ e h x, SR C ρ H e σ ∧ HR C ρ h H ∧ Rp C ρ H x v ∧ PoG C Q ρ H (f x e h)
def tTgs (C : Ct) (f : Tgs) : TGs := fun v σ H Q => ∃ ρ e h x, SR C ρ H e σ ∧ HR C ρ h H ∧ RpL C ρ H x v ∧ PoG C Q ρ H (f x e h)
@[simp] def gNm (i : Nat) : Tg := fun x e h => .ok (e.set i (some x)) h
@[simp] def gsNil : Tgs := fun xs e h => match xs with
  | [] => .ok e h
  | _ :: _ => .bad
@[simp] def gsCons (f : Tg) (g : Tgs) : Tgs := fun xs e h => match xs with
  | [] => .bad
  | x :: r => match f x e h with
    | .ok e' h' => g r e' h'
    | _ => .bad
@[simp] def gTp (n : Nat) (g : Tgs) : Tg := fun x e h => match x with
  | .tup xs => if xs.length = n then g xs e h else .bad
  | .loc m => match h[m]? with
    | some (.lst xs) => if xs.length = n then g xs e h else .bad
    | _ => .bad
  | _ => .bad
/-- a store by values: what the heap becomes -/
def kSet : Va → Va → Va → Hs → Option Hs
  | .loc n, .int i, x, h => match h[n]? with
    | some (.lst xs) => (ixN xs.length i).map fun j => h.set n (.lst (xs.set j x))
    | _ => none
  | _, _, _, _ => none
def gSb (fo fi : Sx) : Tg := fun x e h => match bnd fo (fun o => bnd fi fun i => fun _ h => match kSet o i x h with
    | some h' => Rs.ok () h'
    | none => .bad) e h with
  | .ok _ h' => .ok e h'
  | _ => .bad
section
variable {X : Cx} {W : WX} {pos : Pos} {e : Expr} {es : List Expr} {f : Tg} {g : Tgs}
theorem pg_of {t t' : TG} (h : PG X e t) (i : ∀ v σ H Q, t' v σ H Q → t v σ H Q) : PG X e t' := ⟨fun pins s σ H v u Q I r q => h.run pins s σ H v u Q I r (i v σ H Q q)⟩
theorem pgs_of {t t' : TGs} (h : PGs X es t) (i : ∀ v σ H Q, t' v σ H Q → t v σ H Q) : PGs X es t' := ⟨fun pins s σ H v u Q I r q => h.run pins s σ H v u Q I r (i v σ H Q q)⟩
theorem sg_name (i : Nat) {x : Str} (hN : X.N.Nodup) (hi : X.N[i]? = some x := by rfl) (hx : Loc X.env.scope x := by first | exact Or.inl rfl | exact Or.inr rfl) (hf : X.fn x = true ∨ X.env.scope.names.lookup x = some .local := by first | exact .inl rfl | exact .inr rfl) : PG X (.Name x pos) (tTg (ctOf X) (gNm i)) :=
  pg_of (pg_name hN hi hx hf) fun v σ H Q ⟨ρ, e, h, x, hs, hr, rv, p⟩ => p ρ H _ .refl hr (hs.set i rv)
theorem sgs_nil : PGs X [] (tTgs (ctOf X) gsNil) := pgs_of pgs_nil fun v σ H Q ⟨ρ, e, h, xs, hs, hr, rv, p⟩ => by
  cases rv with
  | nil => exact ⟨rfl, p ρ H σ .refl hr hs⟩
  | cons _ _ => exact p.elim
theorem sgs_cons (h1 : PG X e (tTg (ctOf X) f)) (h2 : PGs X es (tTgs (ctOf X) g)) (hs : (assignEach (e :: es) X.env).map (·.2) = assign e X.env :: (assignEach es X.env).map (·.2) := by rfl) : PGs X (e :: es) (tTgs (ctOf X) (gsCons f g)) :=
  pgs_of (pgs_cons h1 h2 hs) fun v σ H Q ⟨ρ, e, h, xs, hs, hr, rv, p⟩ => by
    cases rv with
    | nil => exact p.elim
    | cons r1 r2 =>
      refine ⟨_, _, rfl, ρ, e, h, _, hs, hr, r1, ?_⟩
      unfold gsCons at p
      dsimp only at p
      split at p
      · rename_i e' h' q
        rw [q]
        exact fun ρ' H' σ' ex hr' hs' => ⟨ρ', e', h', _, hs', hr', r2.mono ex, PoG.mono ex p⟩
      · exact p.elim
theorem sg_tup {k n : Nat} (hc : X.calm = true) (h : PGs X es (tTgs (ctOf X) g)) (hn : (assignEach es X.env).length = n := by rfl) (hst : (assignEach es X.env).findIdx? (·.1) = none := by rfl) : PG X (.Tuple es k pos) (tTg (ctOf X) (gTp n g)) := by
  refine ⟨fun pins s σ H v u Q I r ⟨ρ, e, h', x, hs, hr, rv, p⟩ => ?_⟩
  cases x with
  | tup xs =>
    have p : PoG _ _ _ _ (if xs.length = n then g xs e h' else .bad) := p
    split at p
    · rename_i hl
      cases rv with
      | tup hq rl => exact (pg_tup hc h hn hst).run pins s σ H _ u Q I r ⟨_, _, rfl, hq, by rw [← rl.length]; exact hl, ρ, e, h', xs, hs, hr, rl, p⟩
    · exact p.elim
  | loc m =>
    have p : PoG _ _ _ _ (match h'[m]? with | some (.lst xs) => if xs.length = n then g xs e h' else .bad | _ => .bad) := p
    split at p
    · rename_i xs hm
      obtain ⟨a, vs, rfl, ha, hl, rl⟩ := hr.ls_ hm rv
      split at p
      · rename_i hl2
        exact (pg_unl hc h hn hst).run pins s σ H _ u Q I r ⟨_, _, rfl, SqL.of hl, by rw [← rl.length]; exact hl2, ρ, e, h', xs, hs, hr, rl, p⟩
      · exact p.elim
    · exact p.elim
  | _ => exact p.elim
/-- by values: a list's item stored -/
theorem kSet_of {C : Ct} {ρ : List Addr} {H : Hp} {h h' : Hs} {o i x : Va} {vo vi vx : V} (hr : HR C ρ h H) (ro : Rp C ρ H o vo) (ri : Rp C ρ H i vi) (rx : Rp C ρ H x vx) (e : kSet o i x h = some h') {Q : Hp → Prop} (hQ : ∀ H', Ext C ρ H ρ H' → HR C ρ h' H' → Q H') : rSetL vo vi vx H Q := by
  cases o with
  | loc n => cases i with
    | int i =>
      cases ri
      have e : (match h[n]? with | some (.lst xs) => (ixN xs.length i).map fun j => h.set n (.lst (xs.set j x)) | _ => none) = some h' := e
      split at e
      · rename_i xs hn
        obtain ⟨a, vs, rfl, ha, hl, rl⟩ := hr.ls_ hn ro
        cases q : ixN xs.length i with
        | none => rw [q] at e; cases e
        | some j =>
          rw [q] at e
          cases e
          obtain ⟨e1, e2⟩ := hr.write hn ha hl (rl.set rx j)
          exact ⟨a, vs, i, j, rfl, rfl, hl, by rw [← rl.length]; exact q, hQ _ e1 e2⟩
      · cases e
    | _ => cases e
  | _ => cases e
theorem sg_sub {o i : Expr} {fo fi : Sx} (ho : PE X o (tE (ctOf X) (fun _ _ _ _ => False) fo)) (hi : PE X i (tE (ctOf X) (fun _ _ _ _ => False) fi)) (ha : ∀ v, assign (.Subscript o i pos) X.env v = (do let ov ← holding [v] (eval o X.env); let iv ← holding [v, ov] (eval i X.env); standAt pos; holding [v, ov, iv] (setItem ov iv v); release [v, ov, iv] []) := by intro _; rfl) : PG X (.Subscript o i pos) (tTg (ctOf X) (gSb fo fi)) := pg_of (pg_sub ho hi set_list ha) fun v σ H Q ⟨ρ, e, h, x, hs, hr, rv, p⟩ => by
  unfold gSb at p
  generalize hq : bnd fo (fun o => bnd fi fun i => fun _ h => match kSet o i x h with | some h' => Rs.ok () h' | none => .bad) e h = r at p
  have p2 : Po (ctOf X) (fun _ _ (_ : Unit) (_ : Unit) => True) (fun _ _ _ => False) (fun _ H' => Q σ H') ρ H r := by
    cases r with
    | ok _ h' => exact fun ρ' H' _ ex hr' _ => p ρ' H' σ ex hr' (hs.mono ex)
    | ex _ _ => exact p.elim
    | bad => exact p.elim
  rw [← hq] at p2
  refine Po_bnd (W := fun _ _ _ _ => False) (k := fun o => bnd fi fun i => fun _ h => match kSet o i x h with | some h' => Rs.ok () h' | none => .bad) hs hr p2 fun ρ1 H1 h1 o vo e1 hs1 hr1 ro p3 => Po_bnd (W := fun _ _ _ _ => False) (k := fun i => fun _ h => match kSet o i x h with | some h' => Rs.ok () h' | none => .bad) hs1 hr1 p3 fun ρ2 H2 h2 i vi e2 hs2 hr2 ri p4 => ?_
  cases q : kSet o i x h2 with
  | none => rw [q] at p4; exact p4.elim
  | some h' =>
    rw [q] at p4
    exact kSet_of hr2 (ro.mono e2) ri (rv.mono (e1.trans e2)) q fun H' ex hr' => p4 ρ2 H' () ex hr' trivial
end
def sAsg (f : Sx) (g : Tg) : Ss := bnS f fun x e h => match g x e h with
  | .ok e' h' => .nx e' h'
  | _ => .bad
def sSet (i : Nat) (f : Sx) : Ss := bnS f fun x e h => .nx (e.set i (some x)) h
/-- several names at once -/
@[simp] def setAll : List Nat → List Va → En → Option En
  | [], [], e => some e
  | i :: is, x :: xs, e => setAll is xs (e.set i (some x))
  | _, _, _ => none
def sPar (is : List Nat) (f : Sm (List Va)) : Ss := bnS f fun xs e h => match setAll is xs e with
  | some e' => .nx e' h
  | none => .bad
def sAug (k : Va → Va → Hs → Rs Va) (i : Nat) (f : Sx) : Ss := bnS (s2 k (sVar i) f) fun x e h => .nx (e.set i (some x)) h
section
variable {X : Cx} {W : WX} {pos : Pos} {e tg : Expr} {fe : Sx} {g : Tg}
theorem sp_asg (he : PE X e (tE (ctOf X) W fe)) (hg : PG X tg (tTg (ctOf X) g)) (hs : swapsWithSole [tg] e pos.line X.env = pure false := by rfl) (hw : swappedStores [tg] e X.env = pure none := by rfl) (h1 : (assignEach [tg] X.env).map (·.2) = [assign tg X.env] := by rfl) : PS X (.Assign [tg] e pos) (tS_ X W (sAsg fe g)) :=
  ps_of (ps_asg he hg hs hw h1) fun D σ H h => tSt_bnS h fun ρ H1 e h1 x v hs hr rv p => by
    refine ⟨ρ, e, h1, x, hs, hr, rv, ?_⟩
    cases q : g x e h1 with
    | ok e' h' => rw [q] at p; exact p
    | ex _ _ => rw [q] at p; exact p
    | bad => rw [q] at p; exact p
theorem sp_set (i : Nat) {x : Str} {pos' : Pos} (hN : X.N.Nodup) (he : PE X e (tE (ctOf X) W fe)) (hi : X.N[i]? = some x := by rfl) (hx : Loc X.env.scope x := by first | exact Or.inl rfl | exact Or.inr rfl) (hs : swapsWith e (some (.Name x pos')) pos.line X.env = pure false := by rfl) (hf : X.fn x = true ∨ X.env.scope.names.lookup x = some .local := by first | exact .inl rfl | exact .inr rfl) :
    PS X (.Assign [.Name x pos'] e pos) (tS_ X W (sSet i fe)) := ps_of (ps_set hN hi hx he hs hf) fun D σ H h => tSt_bnS h fun ρ H1 e h1 x v hs hr rv p => p ρ H1 _ .refl hr (hs.set i rv)
theorem sp_par {i j : Nat} {x y : Str} {a b : Expr} {fa : Sm (List Va)} {px py pt : Pos} {kt k2 pt2} (hc : X.calm = true) (hN : X.N.Nodup) (h : PA X [a, b] (tAr (ctOf X) W fa)) (hi : X.N[i]? = some x := by rfl) (hj : X.N[j]? = some y := by rfl) (hij : i ≠ j := by decide)
    (hx : X.env.scope.names.lookup x = some .local := by rfl) (hy : X.env.scope.names.lookup y = some .local := by rfl)
    (hw : swappedStores [.Tuple [.Name x px, .Name y py] kt pt] (.Tuple [a, b] k2 pt2) X.env = pure (some [x, y]) := by rfl) (hs : swapsWithSole [.Tuple [.Name x px, .Name y py] kt pt] (.Tuple [a, b] k2 pt2) pos.line X.env = pure false := by rfl) :
    PS X (.Assign [.Tuple [.Name x px, .Name y py] kt pt] (.Tuple [a, b] k2 pt2) pos) (tS_ X W (sPar [i, j] fa)) := ps_of (ps_par hc hN hi hj hij hx hy h hw hs) fun D σ H h => tSt_bnS h fun ρ H1 e h1 xs vs hs hr rv p => by
  cases rv with
  | nil => exact p.elim
  | cons r1 rv => cases rv with
    | nil => exact p.elim
    | cons r2 rv => cases rv with
      | nil => exact ⟨_, _, rfl, p ρ H1 _ .refl hr ((hs.set i r1).set j r2)⟩
      | cons _ _ => exact p.elim
theorem sp_par3 {i j l : Nat} {x y z : Str} {a b c : Expr} {fa : Sm (List Va)} {px py pz pt : Pos} {kt k2 pt2} (hc : X.calm = true) (hN : X.N.Nodup) (h : PA X [a, b, c] (tAr (ctOf X) W fa)) (hi : X.N[i]? = some x := by rfl) (hj : X.N[j]? = some y := by rfl) (hl : X.N[l]? = some z := by rfl)
    (hij : i ≠ j := by decide) (hil : i ≠ l := by decide) (hjl : j ≠ l := by decide) (hx : X.env.scope.names.lookup x = some .local := by rfl) (hy : X.env.scope.names.lookup y = some .local := by rfl) (hz : X.env.scope.names.lookup z = some .local := by rfl)
    (hw : swappedStores [.Tuple [.Name x px, .Name y py, .Name z pz] kt pt] (.Tuple [a, b, c] k2 pt2) X.env = pure (some [x, y, z]) := by rfl) (hs : swapsWithSole [.Tuple [.Name x px, .Name y py, .Name z pz] kt pt] (.Tuple [a, b, c] k2 pt2) pos.line X.env = pure false := by rfl) :
    PS X (.Assign [.Tuple [.Name x px, .Name y py, .Name z pz] kt pt] (.Tuple [a, b, c] k2 pt2) pos) (tS_ X W (sPar [i, j, l] fa)) := ps_of (ps_par3 hc hN hi hj hl hij hil hjl hx hy hz h hw hs) fun D σ H h => tSt_bnS h fun ρ H1 e h1 xs vs hs hr rv p => by
  cases rv with
  | nil => exact p.elim
  | cons r1 rv => cases rv with
    | nil => exact p.elim
    | cons r2 rv => cases rv with
      | nil => exact p.elim
      | cons r3 rv => cases rv with
        | nil => exact ⟨_, _, _, rfl, p ρ H1 _ .refl hr (((hs.set i r1).set j r2).set l r3)⟩
        | cons _ _ => exact p.elim
theorem sp_aug {op : Operator} {k : Va → Va → Hs → Rs Va} {i : Nat} {x : Str} {pos' : Pos} (hN : X.N.Nodup) (he : PE X e (tE (ctOf X) W fe)) (ho : OpK X (inplaceOp op) k)
    (hi : X.N[i]? = some x := by rfl) (hx : Loc X.env.scope x := by first | exact Or.inl rfl | exact Or.inr rfl) (hf : X.fn x = true ∨ X.env.scope.names.lookup x = some .local := by first | exact .inl rfl | exact .inr rfl) : PS X (.AugAssign (.Name x pos') op e pos) (tS_ X W (sAug k i fe)) := by
  obtain ⟨t, h1, h2⟩ := ho
  refine ps_of (ps_aug (ti := t) hN hi hx he h1 hf) fun D σ H ⟨ρ, e, h, hs, hr, p⟩ => ?_
  have p : PoS (ctOf X) W D ρ H (bnS (s2 k (sVar i) fe) (fun x e h => .nx (e.set i (some x)) h) e h) := p
  unfold bnS s2 bnd sVar at p
  cases q : e[i]? with
  | none => rw [q] at p; exact p.elim
  | some o => cases o with
    | none => rw [q] at p; exact p.elim
    | some y =>
      rw [q] at p
      obtain ⟨v, hv, rv⟩ := hs.2 i y q
      refine ⟨v, hv, ρ, e, h, hs, hr, ?_⟩
      dsimp only at p
      cases q2 : fe e h with
      | ok z h3 =>
        rw [q2] at p
        intro ρ1 H1 u e1 hr1 ru
        refine h2 ρ1 H1 h3 y z v u (fun c d H' => W c d σ H') _ hr1 (rv.mono e1) ru ?_
        cases q3 : k y z h3 with
        | ok w h4 =>
          simp only [vl, q3] at p
          exact fun ρ' H' w' ex hr' rw' => p ρ' H' _ (e1.trans ex) hr' ((((hs.mono e1).mono ex)).set i rw')
        | ex w h4 =>
          simp only [vl, q3] at p
          exact fun ρ' H' cls d ex hr' xr => p ρ' H' σ cls d (e1.trans ex) hr' ((hs.mono e1).mono ex) xr
        | bad =>
          simp only [vl, q3] at p
          exact p
      | ex w h4 => rw [q2] at p; exact fun ρ' H' cls d ex hr' xr => p ρ' H' σ cls d ex hr' (hs.mono ex) xr
      | bad => rw [q2] at p; exact p
@[simp] def kIad : Va → Va → Hs → Rs Va
  | .int i, .int j => okI (i + j)
  | .str x, .str y => fun h => if x.length + y.length ≤ 16777216 then .ok (.str (x ++ y)) h else .bad
  | _, _ => fun _ => .bad
theorem ks_iadd : OpK X (inplaceOp .Add) kIad := ⟨_, OpR.or iop_add iop_add_str, by
  intro ρ H h x y v u W Q hr rx ry p
  cases x <;> cases y <;> first
    | exact False.elim p
    | (cases rx; cases ry; exact .inl ⟨_, _, rfl, rfl, Po_ok p hr (.int _)⟩)
    | (rename_i x y
       cases rx; cases ry
       have p : Po _ _ _ _ _ _ (if x.length + y.length ≤ 16777216 then _ else _) := p
       split at p
       · rename_i c
         refine .inr ⟨_, _, rfl, rfl, by rw [str_len, str_len, line_eq]; exact c, ?_⟩
         rw [str_app]
         exact Po_ok p hr (.str _)
       · exact p.elim)⟩
theorem ks_isub : OpK X (inplaceOp .Sub) kSub := ⟨_, iop_sub, vI0 (fun _ _ _ _ => .int _) fun x y h => by
  cases x <;> cases y <;> first | exact .inr rfl | exact .inl ⟨_, _, rfl, rfl, rfl⟩⟩
end
end Fw

set_option Elab.async false
set_option linter.all false
set_option maxRecDepth 100000
set_option maxHeartbeats 2000000
set_option autoImplicit false
namespace Fw
open PySem PySem.Spec L2

/-! ### what is walked -/
abbrev Src := Nat → Hs → Option (Option Va)
@[simp] def srcV (xs : List Va) : Src := fun i _ => some xs[i]?
def srcL (n : Nat) : Src := fun i h => match h[n]? with
  | some (.lst xs) => some xs[i]?
  | _ => none
def srcEL (n : Nat) : Src := fun i h => match h[n]? with
  | some (.lst xs) => some (xs[i]?.map fun x => .tup [.int (i : Nat), x])
  | _ => none
def srcEV (xs : List Va) : Src := fun i _ => some (xs[i]?.map fun x => .tup [.int (i : Nat), x])
structure SrcR (C : Ct) (ρ : List Addr) (H : Hp) (s : Src) (J : It) : Prop where
  stp : ∀ (ρ1 : List Addr) (H1 : Hp) (h1 : Hs) (i : Nat), Ext C ρ H ρ1 H1 → HR C ρ1 h1 H1 → s i h1 = some none → J.stop i H1
  go : ∀ (ρ1 : List Addr) (H1 : Hp) (h1 : Hs) (i : Nat) (x : Va), Ext C ρ H ρ1 H1 → HR C ρ1 h1 H1 → s i h1 = some (some x) → J.go i H1 ∧ ∀ v H2, J.yld i H1 v H2 → Ext C ρ1 H1 ρ1 H2 ∧ HR C ρ1 h1 H2 ∧ Rp C ρ1 H2 x v
theorem SrcR.mono {C : Ct} {ρ ρ' : List Addr} {H H' : Hp} {s : Src} {J : It} (e : Ext C ρ H ρ' H') (r : SrcR C ρ H s J) : SrcR C ρ' H' s J :=
  ⟨fun ρ1 H1 h1 i ex => r.stp ρ1 H1 h1 i (e.trans ex), fun ρ1 H1 h1 i x ex => r.go ρ1 H1 h1 i x (e.trans ex)⟩
abbrev Sit := Sm (Src × Nat)
abbrev tIt (C : Ct) (W : WX) (f : Sit) : TI := tX C (fun ρ H s J => SrcR C ρ H s.1 J) W f
section
variable {C : Ct} {ρ : List Addr} {H : Hp}
theorem srcL_of {n : Nat} {a : Addr} (ha : ρ[n]? = some a) : SrcR C ρ H (srcL n) (Itl C.K a) := by
  have look : ∀ {ρ1 H1 h1 i r}, Ext C ρ H ρ1 H1 → HR C ρ1 h1 H1 → srcL n i h1 = some r → ∃ xs vs, H1 a = some (.lst vs) ∧ RpL C ρ1 H1 xs vs ∧ xs[i]? = r := fun {ρ1 H1 h1 i r} ex hr e => by
    unfold srcL at e
    split at e
    · rename_i xs hn
      obtain ⟨vs, e1, e2⟩ := hr.ob n _ a hn (ex.pre n a ha)
      exact ⟨xs, vs, e1, e2, Option.some.inj e⟩
    · cases e
  refine ⟨fun ρ1 H1 h1 i ex hr e => ?_, fun ρ1 H1 h1 i x ex hr e => ?_⟩
  · obtain ⟨xs, vs, e1, e2, e3⟩ := look ex hr e
    exact ⟨vs, SqL.of e1, by rw [← e2.length]; exact List.getElem?_eq_none_iff.mp e3⟩
  · obtain ⟨xs, vs, e1, e2, e3⟩ := look ex hr e
    obtain ⟨v, h1, h2⟩ := e2.get e3
    refine ⟨⟨vs, v, SqL.of e1, h1⟩, fun v' H2 ⟨q1, q2⟩ => ?_⟩
    subst q1
    have := q2 vs (SqL.of e1)
    rw [h1] at this
    cases this
    exact ⟨.refl, hr, h2⟩
theorem srcT_of {xs : List Va} {vs : List V} {a : Addr} (hq : SqT C.K H a vs) (rl : RpL C ρ H xs vs) : SrcR C ρ H (srcV xs) (Itt C.K a) := by
  refine ⟨fun ρ1 H1 h1 i ex hr e => ?_, fun ρ1 H1 h1 i x ex hr e => ?_⟩
  · exact ⟨vs, ex.tup _ _ hq, by rw [← rl.length]; exact List.getElem?_eq_none_iff.mp (Option.some.inj e)⟩
  · obtain ⟨v, q1, q2⟩ := (rl.mono ex).get (Option.some.inj e)
    refine ⟨⟨vs, v, ex.tup _ _ hq, q1⟩, fun v' H2 ⟨q3, q4⟩ => ?_⟩
    subst q3
    have := q4 vs (ex.tup _ _ hq)
    rw [q1] at this
    cases this
    exact ⟨.refl, hr, q2⟩
theorem srcR_of {xs : List Va} {vs : List V} {a : Addr} (hq : RoL C.K H a vs) (rl : RpL C ρ H xs vs) : SrcR C ρ H (srcV xs) (Itl C.K a) := by
  refine ⟨fun ρ1 H1 h1 i ex hr e => ?_, fun ρ1 H1 h1 i x ex hr e => ?_⟩
  · exact ⟨vs, (hq.mono ex).sq, by rw [← rl.length]; exact List.getElem?_eq_none_iff.mp (Option.some.inj e)⟩
  · obtain ⟨v, q1, q2⟩ := (rl.mono ex).get (Option.some.inj e)
    refine ⟨⟨vs, v, (hq.mono ex).sq, q1⟩, fun v' H2 ⟨q3, q4⟩ => ?_⟩
    subst q3
    have := q4 vs (hq.mono ex).sq
    rw [q1] at this
    cases this
    exact ⟨.refl, hr, q2⟩
theorem srcS_of {x : List Nat} : SrcR C ρ H (srcV (x.map fun c => .str [c])) (Its ⟨x.toArray⟩) := by
  refine ⟨fun ρ1 H1 h1 i ex hr e => ?_, fun ρ1 H1 h1 i y ex hr e => ?_⟩
  · have e : (x.map fun c => Va.str [c])[i]? = none := Option.some.inj e
    have := List.getElem?_eq_none_iff.mp e
    show (x.toArray).size ≤ i
    simpa using this
  · have e : (x.map fun c => Va.str [c])[i]? = some y := Option.some.inj e
    rw [List.getElem?_map] at e
    cases q : x[i]? with
    | none => rw [q] at e; cases e
    | some c =>
      rw [q] at e
      cases e
      refine ⟨?_, fun v H2 ⟨q3, c', q4, q5⟩ => ?_⟩
      · show i < (x.toArray).size
        simpa using (List.getElem?_eq_some_iff.mp q).1
      · subst q3 q5
        have q4 : (x.toArray)[i]? = some c' := q4
        rw [List.getElem?_toArray, q] at q4
        cases q4
        exact ⟨.refl, hr, .str [c]⟩
def rangeV (lo : Int) (n : Nat) : List Va := (List.range n).map fun i => .int (lo + (i : Nat))
@[simp] def srcR (lo : Int) (n : Nat) : Src := fun i _ => if i < n then some (some (.int (lo + (i : Nat)))) else some none
theorem srcI_of {lo : Int} {n : Nat} : SrcR C ρ H (srcR lo n) (Itr lo n) := by
  refine ⟨fun ρ1 H1 h1 i ex hr e => ?_, fun ρ1 H1 h1 i y ex hr e => ?_⟩
  · unfold srcR at e
    split at e
    · cases e
    · rename_i c
      exact Nat.le_of_not_lt c
  · unfold srcR at e
    split at e
    · rename_i c
      cases e
      refine ⟨c, fun v H2 ⟨q1, q2⟩ => ?_⟩
      subst q1 q2
      exact ⟨.refl, hr, .int _⟩
    · cases e
theorem enum_of {s s' : Src} {a : Addr} (r : SrcR C ρ H s (Itl C.K a)) (hs : ∀ i h, s' i h = (s i h).map fun o => o.map fun x => .tup [.int (i : Nat), x]) : SrcR C ρ H s' (Ite C.K a) := by
  refine ⟨fun ρ1 H1 h1 i ex hr e => ?_, fun ρ1 H1 h1 i x ex hr e => ?_⟩
  · rw [hs] at e
    cases q : s i h1 with
    | none => rw [q] at e; cases e
    | some o => cases o with
      | none => exact r.stp ρ1 H1 h1 i ex hr q
      | some y => rw [q] at e; cases e
  · rw [hs] at e
    cases q : s i h1 with
    | none => rw [q] at e; cases e
    | some o => cases o with
      | none => rw [q] at e; cases e
      | some y =>
        rw [q] at e
        cases e
        obtain ⟨⟨vs, v, g1, g2⟩, gy⟩ := r.go ρ1 H1 h1 i y ex hr q
        refine ⟨⟨vs, v, g1, g2⟩, fun w H2 ⟨T, x, e1, e2, e3, e4⟩ => ?_⟩
        subst e1 e3
        have hx := e4 vs g1
        obtain ⟨_, _, ry⟩ := gy x H1 ⟨rfl, fun ws hw => e4 ws hw⟩
        have en := ext_new (C := C) (ρ := ρ1) (o := .tup [.int (i : Nat), x]) e2
        exact ⟨en, hr.tup_ e2, .tup (SqT.of upd_same) (.cons (.int _) (.cons (ry.mono en) .nil))⟩
end
/-- iterating a value -/
@[simp] def itV : Va → Hs → Option (Src × Nat)
  | .loc n, h => match h[n]? with
    | some (.lst xs) => some (srcL n, xs.length)
    | _ => none
  | .tup xs, _ => some (srcV xs, xs.length)
  | .ros xs, _ => some (srcV xs, xs.length)
  | .str x, _ => some (srcV (x.map fun c => .str [c]), x.length)
  | _, _ => none
def enV : Va → Hs → Option (Src × Nat)
  | .loc n, h => match h[n]? with
    | some (.lst xs) => some (srcEL n, xs.length)
    | _ => none
  | .ros xs, _ => some (srcEV xs, xs.length)
  | _, _ => none
def sItr (f : Sx) : Sit := bnd f fun x _ h => match itV x h with
  | some s => .ok s h
  | none => .bad
def sEnu (f : Sm (List Va)) : Sit := bnd f fun xs _ h => match xs with
  | [x] => match enV x h with
    | some s => .ok s h
    | none => .bad
  | _ => .bad
def sRg1 (f : Sm (List Va)) : Sit := bnd f fun xs _ h => match xs with
  | [.int j] => if -(2 ^ 62) ≤ j ∧ j < 2 ^ 62 then .ok (srcR 0 j.toNat, j.toNat) h else .bad
  | _ => .bad
def sRg2 (f : Sm (List Va)) : Sit := bnd f fun xs _ h => match xs with
  | [.int i, .int j] => if -(2 ^ 62) ≤ i ∧ i < 2 ^ 62 ∧ -(2 ^ 62) ≤ j ∧ j < 2 ^ 62 then .ok (srcR i (j - i).toNat, (j - i).toNat) h else .bad
  | _ => .bad
section
variable {X : Cx} {W : WX} {tg a b e : Expr} {fe : Sx} {fa : Sm (List Va)} {p pos : Pos}
theorem pi_of {t t' : TI} (h : PI X tg e t) (i : ∀ σ H Q, t' σ H Q → t σ H Q) : PI X tg e t' := ⟨fun pins s σ H R I q => h.run pins s σ H R I (i σ H R q)⟩
theorem pi_or {t t' : TI} (h : PI X tg e t) (h' : PI X tg e t') : PI X tg e (fun σ H R => t σ H R ∨ t' σ H R) := ⟨fun pins s σ H R I q => q.elim (h.run pins s σ H R I) (h'.run pins s σ H R I)⟩
theorem si_rg1 (hg : Gl X "range") (hm : X.mg "range" = none) (ha : PA X [a] (tAr (ctOf X) W fa)) (hs : starEach [a] X.env = [(false, eval a X.env)] := by rfl) : PI X tg (.Call (.Name "range" p) [a] [] pos) (tIt (ctOf X) W (sRg1 fa)) := pi_of (pi_range1 hg hm ha hs) fun σ H Q h => tX_bnd h fun ρ H1 e h1 xs vs hs hr rv p => by
  split at p
  · split at p
    · rename_i j c
      cases rv with
      | cons r1 r2 => cases r1; cases r2; exact ⟨_, rfl, c.1, c.2, p ρ H1 _ .refl hr srcI_of⟩
    · exact p.elim
  · exact p.elim
theorem si_rg2 (hg : Gl X "range") (hm : X.mg "range" = none) (ha : PA X [a, b] (tAr (ctOf X) W fa)) (hs : starEach [a, b] X.env = [(false, eval a X.env), (false, eval b X.env)] := by rfl) (hs2 : starEach [b] X.env = [(false, eval b X.env)] := by rfl) : PI X tg (.Call (.Name "range" p) [a, b] [] pos) (tIt (ctOf X) W (sRg2 fa)) := pi_of (pi_range2 hg hm ha hs hs2) fun σ H Q h => tX_bnd h fun ρ H1 e h1 xs vs hs hr rv p => by
  split at p
  · split at p
    · rename_i i j c
      cases rv with
      | cons r1 r2 => cases r1; cases r2 with
        | cons r2 r3 => cases r2; cases r3; exact ⟨_, _, rfl, c, p ρ H1 _ .refl hr srcI_of⟩
    · exact p.elim
  · exact p.elim
/-- a list, a tuple, a text, by what comes -/
theorem si_any (he : PE X e (tE (ctOf X) W fe)) : PI X tg e (tIt (ctOf X) W (sItr fe)) := pi_of (pi_or (pi_list (tg := tg) he) (pi_or (pi_tup he) (pi_str he))) fun σ H Q h => by
  obtain ⟨ρ, e, h, hs, hr, p⟩ := h
  have hh : tIt (ctOf X) W (sItr fe) σ H Q := ⟨ρ, e, h, hs, hr, p⟩
  have done : ∀ (P : Va → Prop) (R : V → Hp → Prop), (∀ x h', fe e h = .ok x h' → P x) → (∀ ρ1 H1 h1 x v, HR (ctOf X) ρ1 h1 H1 → Rp (ctOf X) ρ1 H1 x v → P x → Po (ctOf X) (fun ρ H (s : Src × Nat) J => SrcR (ctOf X) ρ H s.1 J) (fun c d H' => W c d σ H') Q ρ1 H1 (match itV x h1 with | some s => .ok s h1 | none => .bad) → R v H1) → tE (ctOf X) W fe σ H R := fun P R h1 h2 => by
    refine ⟨ρ, e, h, hs, hr, ?_⟩
    unfold sItr bnd at p
    cases q : fe e h with
    | ok x h' => rw [q] at p; exact fun ρ1 H1 v e1 hr1 rv => h2 ρ1 H1 h' x v hr1 rv (h1 x h' q) (Po.mono e1 p)
    | ex x h' => rw [q] at p; exact p
    | bad => rw [q] at p; exact p
  cases q : fe e h with
  | ok x h' =>
    cases x with
    | loc n => exact .inl (done (fun x => ∃ n, x = .loc n) _ (fun x h2 e2 => by rw [q] at e2; cases e2; exact ⟨_, rfl⟩) fun ρ1 H1 h1 x v hr1 rv ⟨n, ex⟩ p => by
        subst ex
        have p : Po _ _ _ _ _ _ (match (match h1[n]? with | some (.lst xs) => some (srcL n, xs.length) | _ => none) with | some s => .ok s h1 | none => .bad) := p
        split at p
        · rename_i s hs'
          split at hs'
          · rename_i xs hn
            cases hs'
            obtain ⟨a, vs, rfl, ha, hl, rl⟩ := hr1.ls_ hn rv
            exact ⟨a, rfl, ⟨vs, SqL.of hl⟩, p ρ1 H1 _ .refl hr1 (srcL_of ha)⟩
          · cases hs'
        · exact p.elim)
    | ros xs => exact .inl (done (fun x => ∃ n, x = .ros n) _ (fun x h2 e2 => by rw [q] at e2; cases e2; exact ⟨_, rfl⟩) fun ρ1 H1 h1 x v hr1 rv ⟨n, ex⟩ p => by
        subst ex
        cases rv with
        | ros hq rl => exact ⟨_, rfl, ⟨_, hq.sq⟩, p ρ1 H1 _ .refl hr1 (srcR_of hq rl)⟩)
    | tup xs => exact .inr (.inl (done (fun x => ∃ n, x = .tup n) _ (fun x h2 e2 => by rw [q] at e2; cases e2; exact ⟨_, rfl⟩) fun ρ1 H1 h1 x v hr1 rv ⟨n, ex⟩ p => by
        subst ex
        cases rv with
        | tup hq rl => exact ⟨_, rfl, ⟨_, hq⟩, p ρ1 H1 _ .refl hr1 (srcT_of hq rl)⟩))
    | str xs => exact .inr (.inr (done (fun x => ∃ n, x = .str n) _ (fun x h2 e2 => by rw [q] at e2; cases e2; exact ⟨_, rfl⟩) fun ρ1 H1 h1 x v hr1 rv ⟨n, ex⟩ p => by
        subst ex
        cases rv
        exact ⟨_, rfl, p ρ1 H1 _ .refl hr1 srcS_of⟩))
    | _ =>
      unfold sItr bnd at p
      rw [q] at p
      exact p.elim
  | ex x h' =>
    refine .inl ⟨ρ, e, h, hs, hr, ?_⟩
    unfold sItr bnd at p
    rw [q] at p ⊢
    exact p
  | bad =>
    unfold sItr bnd at p
    rw [q] at p
    exact p.elim
theorem si_enum {elts : List Expr} {kk : Nat} {tpos : Pos} (hg : Gl X "enumerate") (hm : X.mg "enumerate" = none) (ha : PA X [a] (tAr (ctOf X) W fa)) (hs : starEach [a] X.env = [(false, eval a X.env)] := by rfl) : PI X (.Tuple elts kk tpos) (.Call (.Name "enumerate" p) [a] [] pos) (tIt (ctOf X) W (sEnu fa)) :=
  pi_of (pi_enum hg hm ha hs) fun σ H Q h => tX_bnd h fun ρ H1 e h1 xs vs hs hr rv p => by
  split at p
  · rename_i x
    cases rv with
    | cons r1 r2 =>
    cases r2
    cases x with
    | loc n =>
      have p : Po _ _ _ _ _ _ (match (match h1[n]? with | some (.lst xs) => some (srcEL n, xs.length) | _ => none) with | some s => .ok s h1 | none => .bad) := p
      split at p
      · rename_i s hs'
        split at hs'
        · rename_i xs hn
          cases hs'
          obtain ⟨a, vs, rfl, ha, hl, rl⟩ := hr.ls_ hn r1
          refine ⟨a, vs, rfl, SqL.of hl, p ρ H1 _ .refl hr (enum_of (srcL_of ha) fun i h => ?_)⟩
          show srcEL n i h = _
          unfold srcEL srcL
          split
          · rfl
          · rfl
        · cases hs'
      · exact p.elim
    | ros xs =>
      cases r1 with
      | ros hq rl => exact ⟨_, _, rfl, hq.sq, p ρ H1 _ .refl hr (enum_of (srcR_of hq rl) fun i h => rfl)⟩
    | _ => exact p.elim
  · exact p.elim
end

/-! ### for, while -/
def aft (r : Rt) (k : Ss) : Rt := match r with
  | .nx e h => k e h
  | .ct e h => k e h
  | .bk e h => .nx e h
  | .rt x h => .rt x h
  | .ex x e h => .ex x e h
  | .bad => .bad
def stp (g : Tg) (b : Ss) (x : Va) : Ss := fun e h => match g x e h with
  | .ok e' h' => b e' h'
  | _ => .bad
def loop (s : Src) (b : Va → Ss) : Nat → Nat → Ss
  | 0, i => fun e h => match s i h with
    | some none => .nx e h
    | _ => .bad
  | k + 1, i => fun e h => match s i h with
    | some (some x) => aft (b x e h) (loop s b k (i + 1))
    | _ => .bad
def sFor (f : Sit) (g : Tg) (b : Ss) : Ss := bnS f fun s => loop s.1 (stp g b) s.2 0
def whl (t : Sm Bool) (b : Ss) : Nat → Ss
  | 0 => fun _ _ => .bad
  | k + 1 => fun e h => match t e h with
    | .ok true h' => aft (b e h') (whl t b k)
    | .ok false h' => .nx e h'
    | .ex x h' => .ex x e h'
    | .bad => .bad
section
variable {X : Cx} {W : WX} {tg iter c : Expr} {body : List Stmt} {f : Sit} {g : Tg} {b : Ss} {t : Sm Bool} {pos : Pos}
theorem PoS_aft {D : Ends} {ρ : List Addr} {H : Hp} {k : Ss} {N : L2.St → Hp → Prop} (hN : ∀ ρ' H' σ' e h, Ext (ctOf X) ρ H ρ' H' → HR (ctOf X) ρ' h H' → SR (ctOf X) ρ' H' e σ' → PoS (ctOf X) W D ρ' H' (k e h) → N σ' H') : ∀ {r : Rt}, PoS (ctOf X) W D ρ H (aft r k) → PoS (ctOf X) W { D with nx := N, ct := N, bk := D.nx } ρ H r
  | .nx e' h', p => fun ρ' H' σ' ex hr hs => hN ρ' H' σ' e' h' ex hr hs (PoS.mono ex p)
  | .ct e' h', p => fun ρ' H' σ' ex hr hs => hN ρ' H' σ' e' h' ex hr hs (PoS.mono ex p)
  | .bk _ _, p => p
  | .rt _ _, p => p
  | .ex _ _ _, p => p
  | .bad, p => p
theorem sp_for (hp : PassesOwn (model X.prog X.w) X.A X.env X.xe) (hc : X.calm = true) (hi : PI X tg iter (tIt (ctOf X) W f)) (hg : PG X tg (tTg (ctOf X) g)) (hb : PSs X body (tS_ X W b)) (hs : ∀ x, foldedSetIterable iter X.env x = pure x := by intro _; rfl) :
    PS X (.For tg iter body [] pos) (tS_ X W (sFor f g b)) := ps_of (ps_for hp hc hi hg hb hs) fun D σ H h => tSt_bnS h fun ρ H1 e h1 s J hs hr sr p => by
  refine ⟨fun i m σ H => ∃ ρ1 e h, SR (ctOf X) ρ1 H e σ ∧ HR (ctOf X) ρ1 h H ∧ Ext (ctOf X) ρ H1 ρ1 H ∧ PoS (ctOf X) W D ρ1 H (loop s.1 (stp g b) m i e h), ⟨s.2, ρ, e, h1, hs, hr, .refl, p⟩, ?_⟩
  rintro i m σ2 H2 ⟨ρ2, e2, h2, hs2, hr2, ex2, p2⟩
  cases m with
  | zero =>
    unfold loop at p2
    split at p2
    · rename_i q
      exact .inl ⟨sr.stp ρ2 H2 h2 i ex2 hr2 q, p2 ρ2 H2 σ2 .refl hr2 hs2⟩
    · exact p2.elim
  | succ m =>
    unfold loop at p2
    split at p2
    · rename_i x q
      obtain ⟨go, gy⟩ := sr.go ρ2 H2 h2 i x ex2 hr2 q
      refine .inr ⟨go, fun σ' H' => ∃ ρ1 e h, SR (ctOf X) ρ1 H' e σ' ∧ HR (ctOf X) ρ1 h H' ∧ Ext (ctOf X) ρ H1 ρ1 H' ∧ PoS (ctOf X) W D ρ1 H' (loop s.1 (stp g b) m (i + 1) e h), fun σ' H' w => ⟨m, Nat.lt_succ_self m, w⟩, fun v H3 y => ?_⟩
      obtain ⟨ex3, hr3, rx⟩ := gy v H3 y
      refine ⟨ρ2, e2, h2, x, hs2.mono ex3, hr3, rx, ?_⟩
      have p3 := PoS.mono ex3 p2
      unfold stp at p3
      cases q2 : g x e2 h2 with
      | ok e' h' =>
        rw [q2] at p3
        exact fun ρ' H' σ' ex hr' hs' => ⟨ρ', e', h', hs', hr', PoS_aft (fun ρ5 H5 σ5 e5 h5 ex5 hr5 hs5 p5 => ⟨ρ5, e5, h5, hs5, hr5, ((ex2.trans ex3).trans ex).trans ex5, p5⟩) (PoS.mono ex p3)⟩
      | ex _ _ => rw [q2] at p3; exact p3.elim
      | bad => rw [q2] at p3; exact p3.elim
    · exact p2.elim
theorem sp_while (n : Nat) (hp : PassesOwn (model X.prog X.w) X.A X.env X.xe) (hc : PT X c (tB_ X W t)) (hb : PSs X body (tS_ X W b)) : PS X (.While c body [] pos) (tS_ X W (whl t b n)) := ps_of (ps_while hp hc hb) fun D σ H ⟨ρ, e, h, hs, hr, p⟩ => by
  refine ⟨fun m σ H => ∃ ρ1 e h, SR (ctOf X) ρ1 H e σ ∧ HR (ctOf X) ρ1 h H ∧ PoS (ctOf X) W D ρ1 H (whl t b m e h), ⟨n, ρ, e, h, hs, hr, p⟩, ?_⟩
  rintro m σ2 H2 ⟨ρ2, e2, h2, hs2, hr2, p2⟩
  cases m with
  | zero => exact p2.elim
  | succ m =>
    unfold whl at p2
    refine ⟨ρ2, e2, h2, hs2, hr2, ?_⟩
    cases q : t e2 h2 with
    | ok k h3 =>
      rw [q] at p2
      intro ρ3 H3 v ex3 hr3 rv
      have rv : k = v := rv
      subst rv
      cases k with
      | true =>
        refine iteT ⟨fun σ' H' => ∃ ρ1 e h, SR (ctOf X) ρ1 H' e σ' ∧ HR (ctOf X) ρ1 h H' ∧ PoS (ctOf X) W D ρ1 H' (whl t b m e h), fun σ' H' w => ⟨m, Nat.lt_succ_self m, w⟩, ρ3, e2, h3, hs2.mono ex3, hr3, ?_⟩
        exact PoS_aft (fun ρ5 H5 σ5 e5 h5 ex5 hr5 hs5 p5 => ⟨ρ5, e5, h5, hs5, hr5, p5⟩) (PoS.mono ex3 p2)
      | false => exact iteF (p2 ρ3 H3 σ2 ex3 hr3 (hs2.mono ex3))
    | ex x h3 => rw [q] at p2; exact fun ρ' H' cls d a b c => p2 ρ' H' σ2 cls d a b (hs2.mono a) c
    | bad => rw [q] at p2; exact p2.elim
end
end Fw

set_option Elab.async false
set_option linter.all false
set_option maxRecDepth 100000
set_option maxHeartbeats 2000000
set_option autoImplicit false
namespace Fw
open PySem PySem.Spec L2

/-! ### keeping, without the frame -/
structure Ex0 (C : Ct) (ρ : List Addr) (H : Hp) (ρ' : List Addr) (H' : Hp) : Prop where
  pre : ∀ (n : Nat) (a : Addr), ρ[n]? = some a → ρ'[n]? = some a
  tup : ∀ a vs, SqT C.K H a vs → SqT C.K H' a vs
  frz : ∀ a o u, H a = some (.frz o u) → H' a = some (.frz o u)
mutual
theorem Rp.keep {C : Ct} {ρ ρ' : List Addr} {H H' : Hp} (x : Ex0 C ρ H ρ' H') : ∀ {y : Va} {v : V}, Rp C ρ H y v → Rp C ρ' H' y v
  | _, _, .non => .non
  | _, _, .bl b => .bl b
  | _, _, .int i => .int i
  | _, _, .str s => .str s
  | _, _, .tup h r => .tup (x.tup _ _ h) (RpL.keep x r)
  | _, _, .ros h r => .ros (h.elim (fun ⟨o, q⟩ => .inl ⟨o, x.frz _ _ _ q⟩) .inr) (RpL.keep x r)
  | _, _, .loc h => .loc (x.pre _ _ h)
  | _, _, .fn h => .fn h
  | _, _, .ty n => .ty n
  | _, _, .rg h => .rg (x.frz _ _ _ h)
theorem RpL.keep {C : Ct} {ρ ρ' : List Addr} {H H' : Hp} (x : Ex0 C ρ H ρ' H') : ∀ {y : List Va} {v : List V}, RpL C ρ H y v → RpL C ρ' H' y v
  | _, _, .nil => .nil
  | _, _, .cons h r => .cons (Rp.keep x h) (RpL.keep x r)
end
theorem RpK.keep {C : Ct} {ρ ρ' : List Addr} {H H' : Hp} {xs : List (Va × Va)} {vs : List (Key × V)} (r : RpK C ρ H xs vs) (x : Ex0 C ρ H ρ' H') : RpK C ρ' H' xs vs := r.map fun q => q.keep x
section
variable {C : Ct} {ρ ρ1 : List Addr} {H H1 : Hp} {h : Hs} {D : Addr} {w w' : List V}
/-- a list that stands apart from ours is written -/
theorem ex0_away (hD : H D = some (.lst w)) : Ex0 C ρ H ρ (upd H D (.lst w')) where
  pre := fun _ _ h => h
  tup := fun a vs q => by
    have na : ∀ u, H a = some u → (∀ z, u ≠ .lst z) → a ≠ D := fun u e nz z => by
      rw [z, hD] at e
      exact nz w (Option.some.inj e).symm
    rcases q with (q | ⟨o, q⟩) | q
    · exact .inl (.inl (by rw [upd_ne (na _ q fun z e => by cases e)]; exact q))
    · exact .inl (.inr ⟨o, by rw [upd_ne (na _ q fun z e => by cases e)]; exact q⟩)
    · exact .inr q
  frz := fun a o u q => by
    rw [upd_ne (fun z => by rw [z, hD] at q; cases q)]
    exact q
theorem HR.away (hr : HR C ρ h H) (hD : H D = some (.lst w)) (hn : ∀ n : Nat, ρ[n]? ≠ some D) : HR C ρ h (upd H D (.lst w')) := by
  refine ⟨hr.len, hr.nd, fun n o a hn' ha => ?_⟩
  have q := hr.ob n o a hn' ha
  revert q
  cases o with
  | lst xs => rintro ⟨vs, e1, e2⟩; exact ⟨vs, by rw [upd_ne (fun z => hn n (by rw [← z]; exact ha))]; exact e1, e2.keep (ex0_away hD)⟩
  | dct k => rintro ⟨vs, e1, e2⟩; exact ⟨vs, by rw [upd_ne (fun z => hn n (by rw [← z]; exact ha))]; exact e1, e2.keep (ex0_away hD)⟩
theorem Ext.mut_ (e : Ext C ρ H ρ1 H1) (h0 : H D = none) (hD : H1 D = some (.lst w)) : Ext C ρ H ρ1 (upd H1 D (.lst w')) where
  pre := e.pre
  tup := fun a vs q => (ex0_away (C := C) (ρ := ρ1) hD).tup a vs (e.tup a vs q)
  frz := fun a o u q => (ex0_away (C := C) (ρ := ρ1) hD).frz a o u (e.frz a o u q)
  new := e.new
  frm := fun a o q hn => by
    rw [upd_ne (ne_of_none q h0)]
    exact e.frm a o q hn
  liv := fun a o q => by
    obtain ⟨o', q'⟩ := e.liv a o q
    exact ⟨o', by rw [upd_ne (ne_of_none q h0)]; exact q'⟩
/-- it becomes ours -/
theorem HR.adopt (hr : HR C ρ1 h H1) (e : Ext C ρ H ρ1 H1) (h0 : H D = none) (hD : H1 D = some (.lst w)) (hn : ∀ n : Nat, ρ1[n]? ≠ some D) {xs : List Va} (r : RpL C ρ1 H1 xs w) :
    Ext C ρ H (ρ1 ++ [D]) H1 ∧ HR C (ρ1 ++ [D]) (h ++ [.lst xs]) H1 ∧ Rp C (ρ1 ++ [D]) H1 (.loc h.length) (.ref D) := by
  have x0 : Ex0 C ρ1 H1 (ρ1 ++ [D]) H1 := ⟨fun n a q => by rw [List.getElem?_append_left (List.getElem?_eq_some_iff.mp q).1]; exact q, fun _ _ q => q, fun _ _ _ q => q⟩
  have last : ∀ (n : Nat) (a : Addr), (ρ1 ++ [D])[n]? = some a → (n < ρ1.length ∧ ρ1[n]? = some a) ∨ (n = ρ1.length ∧ a = D) := fun n a q => by
    by_cases hl : n < ρ1.length
    · rw [List.getElem?_append_left hl] at q
      exact .inl ⟨hl, q⟩
    · have l := (List.getElem?_eq_some_iff.mp q).1
      simp at l
      have en : n = ρ1.length := by omega
      subst en
      simp at q
      exact .inr ⟨rfl, q.symm⟩
  refine ⟨⟨fun n a q => x0.pre n a (e.pre n a q), e.tup, e.frz, fun n a q => ?_, e.frm, e.liv⟩, ⟨by simp [hr.len], fun i j a hi hj => ?_, fun n o a ho ha => ?_⟩, .loc (by rw [← hr.len]; simp)⟩
  · rcases last n a q with ⟨_, q⟩ | ⟨_, rfl⟩
    · exact e.new n a q
    · exact .inr h0
  · rcases last i a hi with ⟨_, q1⟩ | ⟨rfl, rfl⟩ <;> rcases last j _ hj with ⟨_, q2⟩ | ⟨e2, e3⟩
    · exact hr.nd i j a q1 q2
    · subst e3; exact absurd q1 (hn i)
    · exact absurd q2 (hn j)
    · exact e2.symm
  · rcases last n a ha with ⟨l, q⟩ | ⟨rfl, rfl⟩
    · rw [List.getElem?_append_left (by rw [← hr.len]; exact l)] at ho
      have z := hr.ob n o a ho q
      revert z
      cases o with
      | lst ys => rintro ⟨vs, e1, e2⟩; exact ⟨vs, e1, e2.keep x0⟩
      | dct k => rintro ⟨vs, e1, e2⟩; exact ⟨vs, e1, e2.keep x0⟩
    · rw [hr.len] at ho
      simp at ho
      subst ho
      exact ⟨w, hD, r.keep x0⟩
end

/-! ### comprehensions -/
def wipeE (e : En) : List Nat → En
  | [] => e
  | v :: vs => (wipeE e vs).set v none
theorem SR.setN {C : Ct} {ρ : List Addr} {H : Hp} {e : En} {σ : L2.St} (h : SR C ρ H e σ) (i : Nat) : SR C ρ H (e.set i none) (σ.set i none) := by
  refine ⟨by simp [h.1], fun j y q => ?_⟩
  by_cases hij : i = j
  · subst hij
    rw [List.getElem?_set] at q
    by_cases hl : i < e.length
    · simp [hl] at q
    · simp [hl] at q
  · rw [List.getElem?_set_ne hij] at q ⊢
    exact h.2 j y q
theorem SR.wipe {C : Ct} {ρ : List Addr} {H : Hp} {e : En} {σ : L2.St} (h : SR C ρ H e σ) : ∀ vs, SR C ρ H (wipeE e vs) (L2.wipe σ vs)
  | [] => h
  | v :: vs => (SR.wipe h vs).setN v
theorem SR.keep {C : Ct} {ρ ρ' : List Addr} {H H' : Hp} {e : En} {σ : L2.St} (x : Ex0 C ρ H ρ' H') (h : SR C ρ H e σ) : SR C ρ' H' e σ :=
  ⟨h.1, fun i y q => let ⟨v, e1, r⟩ := h.2 i y q; ⟨v, e1, r.keep x⟩⟩
/-- a target of names alone -/
def NT (C : Ct) (vs : List Nat) (g : TG) (f : Tg) : Prop := ∀ (ρ : List Addr) (H : Hp) (e : En) (h : Hs) (x : Va) (v : V) (σ : L2.St) (Q : L2.St → Hp → Prop) (e' : En) (h' : Hs), SR C ρ H e σ → HR C ρ h H → Rp C ρ H x v → f x e h = .ok e' h' →
  (∀ σ', h' = h → SR C ρ H e' σ' → L2.wipe σ' vs = L2.wipe σ vs → Q σ' H) → g v σ H Q
def NTs (C : Ct) (vs : List Nat) (g : TGs) (f : Tgs) : Prop := ∀ (ρ : List Addr) (H : Hp) (e : En) (h : Hs) (x : List Va) (v : List V) (σ : L2.St) (Q : L2.St → Hp → Prop) (e' : En) (h' : Hs), SR C ρ H e σ → HR C ρ h H → RpL C ρ H x v → f x e h = .ok e' h' →
  (∀ σ', h' = h → SR C ρ H e' σ' → L2.wipe σ' vs = L2.wipe σ vs → Q σ' H) → g v σ H Q
theorem wipe_set {i : Nat} {o : Option V} : ∀ {vs : List Nat} {σ : L2.St}, i ∈ vs → L2.wipe (σ.set i o) vs = L2.wipe σ vs := by
  have comm : ∀ (vs : List Nat) (σ : L2.St), i ∉ vs → L2.wipe (σ.set i o) vs = (L2.wipe σ vs).set i o := by
    intro vs
    induction vs with
    | nil => intro σ _; rfl
    | cons v vs ih =>
      intro σ hi
      show (L2.wipe (σ.set i o) vs).set v none = ((L2.wipe σ vs).set v none).set i o
      rw [ih σ (fun z => hi (List.mem_cons_of_mem _ z)), List.set_comm]
      exact fun z => hi (by rw [z]; exact List.mem_cons_self)
  intro vs
  induction vs with
  | nil => intro σ h; cases h
  | cons v vs ih =>
    intro σ h
    show (L2.wipe (σ.set i o) vs).set v none = (L2.wipe σ vs).set v none
    by_cases hm : i ∈ vs
    · rw [ih hm]
    · have e : i = v := (List.mem_cons.mp h).resolve_right hm
      subst e
      rw [comm vs σ hm, List.set_set]
section
variable {C : Ct} {vs : List Nat}
theorem nt_name (i : Nat) (hi : i ∈ vs := by decide) : NT C vs (gName i) (gNm i) := fun ρ H e h x v σ Q e' h' hs hr rv q hQ => by
  cases q
  exact hQ _ rfl (hs.set i rv) (wipe_set hi)
theorem nts_nil : NTs C vs gNil gsNil := fun ρ H e h x v σ Q e' h' hs hr rv q hQ => by
  cases rv with
  | nil => cases q; exact ⟨rfl, hQ σ rfl hs rfl⟩
  | cons _ _ => cases q
theorem nts_cons {g : TG} {f : Tg} {gs : TGs} {fs : Tgs} (h1 : NT C vs g f) (h2 : NTs C vs gs fs) : NTs C vs (gCons g gs) (gsCons f fs) := fun ρ H e h x v σ Q e' h' hs hr rv q hQ => by
  cases rv with
  | nil => cases q
  | cons r1 r2 =>
    refine ⟨_, _, rfl, ?_⟩
    unfold gsCons at q
    dsimp only at q
    split at q
    · rename_i e1 hh1 q1
      exact h1 ρ H e h _ _ σ _ e1 hh1 hs hr r1 q1 fun σ1 eh hs1 w1 => by
        subst eh
        exact h2 ρ H e1 hh1 _ _ σ1 Q e' h' hs1 hr r2 q fun σ2 eh2 hs2 w2 => hQ σ2 eh2 hs2 (w2.trans w1)
    · cases q
theorem nt_tup {n : Nat} {gs : TGs} {fs : Tgs} (h1 : NTs C vs gs fs) : NT C vs (fun v σ H Q => gTup C.K n gs v σ H Q ∨ gUnl C.K n gs v σ H Q) (gTp n fs) := fun ρ H e h x v σ Q e' h' hs hr rv q hQ => by
  cases x with
  | tup xs =>
    have q : (if xs.length = n then fs xs e h else .bad) = Rs.ok e' h' := q
    split at q
    · rename_i hl
      cases rv with
      | tup hq rl => exact .inl ⟨_, _, rfl, hq, by rw [← rl.length]; exact hl, h1 ρ H e h xs _ σ Q e' h' hs hr rl q hQ⟩
    · cases q
  | loc m =>
    have q : (match h[m]? with | some (.lst xs) => if xs.length = n then fs xs e h else .bad | _ => .bad) = Rs.ok e' h' := q
    split at q
    · rename_i xs hm
      obtain ⟨a, ws, rfl, ha, hl, rl⟩ := hr.ls_ hm rv
      split at q
      · rename_i hl2
        exact .inr ⟨_, _, rfl, SqL.of hl, by rw [← rl.length]; exact hl2, h1 ρ H e h xs _ σ Q e' h' hs hr rl q hQ⟩
      · cases q
    · cases q
  | _ => cases q
end
section
variable {X : Cx} {pos : Pos} {e : Expr} {es : List Expr}
theorem pg_or {t t' : TG} (h : PG X e t) (h' : PG X e t') : PG X e (fun v σ H Q => t v σ H Q ∨ t' v σ H Q) := ⟨fun pins s σ H v u Q I r q => q.elim (h.run pins s σ H v u Q I r) (h'.run pins s σ H v u Q I r)⟩
theorem pg_tl {k n : Nat} {t : TGs} (hc : X.calm = true) (h : PGs X es t) (hn : (assignEach es X.env).length = n := by rfl) (hst : (assignEach es X.env).findIdx? (·.1) = none := by rfl) : PG X (.Tuple es k pos) (fun v σ H Q => gTup X.K n t v σ H Q ∨ gUnl X.K n t v σ H Q) := pg_or (pg_tup hc h hn hst) (pg_unl hc h hn hst)
end

def lcl (s : Src) (g : Tg) (t : Sm Bool) (el : Sx) : Nat → Nat → En → Hs → Rs (List Va)
  | 0, i, _, h => match s i h with
    | some none => .ok [] h
    | _ => .bad
  | k + 1, i, e, h => match s i h with
    | some (some x) => match g x e h with
      | .ok e' h1 => match t e' h1 with
        | .ok true h2 => match el e' h2 with
          | .ok y h3 => match lcl s g t el k (i + 1) e h3 with
            | .ok ys h4 => .ok (y :: ys) h4
            | r => r
          | _ => .bad
        | .ok false h2 => lcl s g t el k (i + 1) e h2
        | _ => .bad
      | _ => .bad
    | _ => .bad
def tru : Sm Bool := fun _ h => .ok true h
def lst_ (acc : List Va) : Rs (List Va) → Rs Va
  | .ok ys h => newL (acc ++ ys) h
  | _ => .bad
def sLc (f : Sit) (g : Tg) (t : Sm Bool) (el : Sx) (own : List Nat) : Sx := bnd f fun s e h => lst_ [] (lcl s.1 g t el s.2 0 (wipeE e own) h)
abbrev W0 : WX := fun _ _ _ _ => False
section
variable {X : Cx} {W : WX} {f : Sit} {g : Tg} {t : Sm Bool} {el : Sx} {own : List Nat} {gg : TG} {pos : Pos} {c : Expr}
theorem sts_nil {W : WX} : PTs X [] (tB_ X W tru) := ⟨fun pins s σ H Q I ⟨ρ, e, h, hs, hr, p⟩ => pts_nil.run pins s σ H Q I (p ρ H true .refl hr rfl)⟩
theorem sts_one {W : WX} (h : PT X c (tB_ X W t)) : PTs X [c] (tB_ X W t) := pts_one h
theorem tLc_of (hg : NT (ctOf X) own gg g) : ∀ σ H Q, tE (ctOf X) W (sLc f g t el own) σ H Q → tLc (tIt (ctOf X) W f) gg (tB_ X W0 t) (tE (ctOf X) W0 el) own σ H Q := fun σ H Q h => tX_bnd h fun ρ H1 e h1 s J hs hr sr p D hD => by
  have small : ∀ {acc : List Va} {r : Rs (List Va)}, Po (ctOf X) (Rp (ctOf X)) (fun c d H' => W c d σ H') Q ρ H1 (lst_ acc r) → ∃ ys h', r = .ok ys h' ∧ acc.length + ys.length ≤ 16777216 := fun {acc r} p => by
    cases r with
    | ok ys h' =>
      have p : Po (ctOf X) (Rp (ctOf X)) (fun c d H' => W c d σ H') Q ρ H1 (newL (acc ++ ys) h') := p
      unfold newL at p
      split at p
      · rename_i hl
        exact ⟨ys, h', rfl, by rw [List.length_append] at hl; exact hl⟩
      · exact p.elim
    | ex _ _ => exact p.elim
    | bad => exact p.elim
  have nD : ∀ n : Nat, ρ[n]? ≠ some D := fun n q => by
    obtain ⟨o, ho⟩ := hr.sm_ q
    rw [hD] at ho; cases ho
  refine ⟨fun i m H => ∃ (ρ1 : List Addr) (h : Hs) (acc : List Va) (accV : List V), Ext (ctOf X) ρ H1 ρ1 H ∧ HR (ctOf X) ρ1 h H ∧ (∀ n : Nat, ρ1[n]? ≠ some D) ∧ H D = some (.lst accV) ∧ RpL (ctOf X) ρ1 H acc accV ∧ SR (ctOf X) ρ1 H (wipeE e own) (L2.wipe σ own) ∧
    Po (ctOf X) (Rp (ctOf X)) (fun c d H' => W c d σ H') Q ρ H1 (lst_ acc (lcl s.1 g t el m i (wipeE e own) h)), ⟨s.2, ρ, h1, [], [], ext_new hD, hr.tup_ hD, nD, upd_same, .nil, (hs.mono (ext_new hD)).wipe own, p⟩, ?_⟩
  rintro i m H2 ⟨ρ2, h2, acc, accV, ex2, hr2, nD2, hD2, ra, hs2, p2⟩
  cases m with
  | zero =>
    obtain ⟨ys, h', q, hl⟩ := small p2
    rw [q] at p2
    unfold lcl at q
    split at q
    · rename_i q1
      cases q
      refine .inl ⟨sr.stp ρ2 H2 h2 i ex2 hr2 q1, ?_⟩
      have p2 : Po (ctOf X) (Rp (ctOf X)) (fun c d H' => W c d σ H') Q ρ H1 (newL (acc ++ []) h2) := p2
      rw [List.append_nil] at p2
      unfold newL at p2
      split at p2
      · obtain ⟨a1, a2, a3⟩ := hr2.adopt ex2 hD hD2 nD2 ra
        exact p2 _ _ _ a1 a2 a3
      · exact p2.elim
    · cases q
  | succ m =>
    obtain ⟨ys, h', q, hl⟩ := small p2
    have p0 := p2
    rw [q] at p2
    unfold lcl at q
    split at q
    · rename_i x q1
      obtain ⟨go, gy⟩ := sr.go ρ2 H2 h2 i x ex2 hr2 q1
      refine .inr ⟨go, fun H' => ∃ (ρ1 : List Addr) (h : Hs) (acc : List Va) (accV : List V), Ext (ctOf X) ρ H1 ρ1 H' ∧ HR (ctOf X) ρ1 h H' ∧ (∀ n : Nat, ρ1[n]? ≠ some D) ∧ H' D = some (.lst accV) ∧ RpL (ctOf X) ρ1 H' acc accV ∧ SR (ctOf X) ρ1 H' (wipeE e own) (L2.wipe σ own) ∧
        Po (ctOf X) (Rp (ctOf X)) (fun c d H' => W c d σ H') Q ρ H1 (lst_ acc (lcl s.1 g t el m (i + 1) (wipeE e own) h)), fun H' w => ⟨m, Nat.lt_succ_self m, w⟩, fun v H3 y => ?_⟩
      obtain ⟨ex3, hr3, rx⟩ := gy v H3 y
      have hD3 : H3 D = some (.lst accV) := ex3.frm D _ hD2 nD2
      split at q
      · rename_i e' h3 q2
        refine hg ρ2 H3 _ h2 x v _ _ e' h3 (hs2.mono ex3) hr3 rx q2 fun σ' eh hs3 hw => ?_
        subst eh
        refine ⟨hw.trans ?_, ρ2, e', h3, hs3, hr3, ?_⟩
        · -- wiped twice
          have tw : ∀ vs : List Nat, ∀ σ : L2.St, (∀ i ∈ vs, i ∈ own) → L2.wipe (L2.wipe σ vs) own = L2.wipe σ own := by
            intro vs
            induction vs with
            | nil => intro σ _; rfl
            | cons v vs ih =>
              intro σ hv
              show L2.wipe ((L2.wipe σ vs).set v none) own = _
              rw [wipe_set (hv v List.mem_cons_self)]
              exact ih σ fun i hi => hv i (List.mem_cons_of_mem _ hi)
          exact tw own σ fun _ hi => hi
        · split at q
          · rename_i h4 q3
            rw [q3]
            intro ρ4 H4 k ex4 hr4 ek
            have ek : true = k := ek
            subst ek
            refine iteT ⟨ρ4, e', h4, hs3.mono ex4, hr4, ?_⟩
            have nD4 : ∀ n : Nat, ρ4[n]? ≠ some D := fun n z => by
              rcases ex4.new n D z with z | z
              · exact nD2 n z
              · rw [hD3] at z; cases z
            have hD4 : H4 D = some (.lst accV) := ex4.frm D _ hD3 nD2
            split at q
            · rename_i y h5 q4
              rw [q4]
              intro ρ5 H5 w ex5 hr5 rw_
              have nD5 : ∀ n : Nat, ρ5[n]? ≠ some D := fun n z => by
                rcases ex5.new n D z with z | z
                · exact nD4 n z
                · rw [hD4] at z; cases z
              have hD5 : H5 D = some (.lst accV) := ex5.frm D _ hD4 nD4
              have exs : Ext (ctOf X) ρ H1 ρ5 H5 := ((ex2.trans ex3).trans ex4).trans ex5
              have ra5 : RpL (ctOf X) ρ5 H5 acc accV := ((ra.mono ex3).mono ex4).mono ex5
              have x0 := ex0_away (C := ctOf X) (ρ := ρ5) (w' := accV ++ [w]) hD5
              refine ⟨accV, hD5, ?_, ρ5, h5, acc ++ [y], accV ++ [w], exs.mut_ hD hD5, hr5.away hD5 nD5, nD5, upd_same, (ra5.append (.cons rw_ .nil)).keep x0, (((hs2.mono ex3).mono ex4).mono ex5).keep x0, ?_⟩
              · rw [← ra5.length, line_eq]
                split at q
                · cases q
                  have : acc.length + (_ :: _ : List Va).length ≤ 16777216 := hl
                  simp at this
                  omega
                · rename_i hx
                  exact (hx _ _ q).elim
              · unfold lcl at p0
                rw [q1] at p0
                simp only [q2, q3, q4] at p0
                cases q5 : lcl s.1 g t el m (i + 1) (wipeE e own) h5 with
                | ok zs h6 =>
                  rw [q5] at p0
                  show Po (ctOf X) (Rp (ctOf X)) (fun c d H' => W c d σ H') Q ρ H1 (newL ((acc ++ [y]) ++ zs) h6)
                  rw [List.append_assoc]
                  exact p0
                | ex _ _ => rw [q5] at p0; exact p0.elim
                | bad => rw [q5] at p0; exact p0.elim
            · cases q
          · rename_i h4 q3
            rw [q3]
            intro ρ4 H4 k ex4 hr4 ek
            have ek : false = k := ek
            subst ek
            have nD4 : ∀ n : Nat, ρ4[n]? ≠ some D := fun n z => by
              rcases ex4.new n D z with z | z
              · exact nD2 n z
              · rw [hD3] at z; cases z
            refine iteF ⟨ρ4, h4, acc, accV, (ex2.trans ex3).trans ex4, hr4, nD4, ex4.frm D _ hD3 nD2, (ra.mono ex3).mono ex4, (hs2.mono ex3).mono ex4, ?_⟩
            unfold lcl at p0
            rw [q1] at p0
            simp only [q2, q3] at p0
            exact p0
          · cases q
      · cases q
    · cases q
theorem se_lc {elt tg iter : Expr} {ifs : List Expr} {scope : Scope} {ow : List (Str × Nat)} (hc : X.calm = true) (hN : X.N.Nodup) (hi : PI X tg iter (tIt (ctOf X) W f)) (ok : BlkOk X.N X.env.scope scope ow) (hg : NT (ctOf X) own gg g)
    (hp : ∀ (s : Shared) (H : Hp) (C : Addr) (cl : List (Str × Addr)) (fp : List Addr), PG (X.blk s H scope (compEnvC scope cl C X.env) fp) tg gg) (ht : ∀ (s : Shared) (H : Hp) (C : Addr) (cl : List (Str × Addr)) (fp : List Addr), PTs (X.blk s H scope (compEnvC scope cl C X.env) fp) ifs (tB_ X W0 t))
    (he : ∀ (s : Shared) (H : Hp) (C : Addr) (cl : List (Str × Addr)) (fp : List Addr), PE (X.blk s H scope (compEnvC scope cl C X.env) fp) elt (tE (ctOf X) W0 el)) (hs : ∀ x, foldedSetIterable iter X.env x = pure x := by intro _; rfl) (ho : ow.map (·.2) = own := by rfl) :
    PE X (.ListComp elt [⟨tg, iter, ifs, 0⟩] scope pos) (tE (ctOf X) W (sLc f g t el own)) := by
  subst ho
  exact pe_of (pe_lc hc hN hi ok hp ht he hs) (tLc_of hg)
theorem sp_setLc (i : Nat) {y : Str} {py spos : Pos} {elt tg iter : Expr} {ifs : List Expr} {scope : Scope} {ow : List (Str × Nat)} (hc : X.calm = true) (hN : X.N.Nodup) (hy : X.N[i]? = some y) (hyl : X.env.scope.names.lookup y = some .local) (hsw : swapsWith (.ListComp elt [⟨tg, iter, ifs, 0⟩] scope pos) (some (.Name y py)) spos.line X.env = pure true)
    (hi : PI X tg iter (tIt (ctOf X) W f)) (ok : BlkOk X.N X.env.scope scope ow) (hg : NT (ctOf X) own gg g)
    (hp : ∀ (s : Shared) (H : Hp) (C : Addr) (cl : List (Str × Addr)) (fp : List Addr), PG (X.blk s H scope (compEnvC scope cl C X.env) fp) tg gg) (ht : ∀ (s : Shared) (H : Hp) (C : Addr) (cl : List (Str × Addr)) (fp : List Addr), PTs (X.blk s H scope (compEnvC scope cl C X.env) fp) ifs (tB_ X W0 t))
    (he : ∀ (s : Shared) (H : Hp) (C : Addr) (cl : List (Str × Addr)) (fp : List Addr), PE (X.blk s H scope (compEnvC scope cl C X.env) fp) elt (tE (ctOf X) W0 el)) (hs : ∀ x, foldedSetIterable iter X.env x = pure x := by intro _; rfl) (ho : ow.map (·.2) = own := by rfl) :
    PS X (.Assign [.Name y py] (.ListComp elt [⟨tg, iter, ifs, 0⟩] scope pos) spos) (tS_ X W (sSet i (sLc f g t el own))) := by
  subst ho
  refine ps_of (ps_setLc hc hN hy hyl hsw hi ok hp ht he hs) fun D σ H h => ?_
  refine tLc_of hg σ H _ ?_
  exact tSt_bnS h fun ρ H1 e h1 x v hs hr rv p => p ρ H1 _ .refl hr (hs.set i rv)
end
end Fw

set_option Elab.async false
set_option linter.all false
set_option maxRecDepth 100000
set_option maxHeartbeats 2000000
set_option autoImplicit false
namespace Fw
open PySem PySem.Spec L2
open PyProof.Rows hiding St

/-! ### defs -/
/-- a call's run by plain data: the bound arguments, the heap -/
abbrev Fn := List Va → Hs → Rs Va
def SpF (C : Ct) (F : Fn) (n : Nat) : Sp := fun vs H Q E => vs.length = n ∧ ∃ ρ h xs, RpL C ρ H xs vs ∧ HR C ρ h H ∧ Po C (Rp C) E Q ρ H (F xs h)
structure DefOk (P : Program) (w : World) (C : Ct) (base : Heap) (k : Nat) (f : Addr) (fd : FuncData) (ps : List Str) (F : Fn) : Prop where
  run : ∀ (A : Around) (outer : List Env) (s : Shared) (H : Hp) (args : Args) (us : List Value) (vs : List V) (Q : VK) (E : XK), Room k A → A.guards = some [] → Env0 P w C.K C.mg base A outer s H → BindsTo s fd args (ps.zip us) → Vals vs us → SpF C F ps.length vs H Q E →
    codeAny (model P w) A (.call (.ref f) args) (CR (L2.CX P w) outer P w H s Q E) s
theorem DefOk.mono {P : Program} {w : World} {C : Ct} {base : Heap} {j k : Nat} {f : Addr} {fd : FuncData} {ps : List Str} {F : Fn} (d : DefOk P w C base j f fd ps F) (h : j ≤ k) : DefOk P w C base k f fd ps F :=
  ⟨fun A outer s H args us vs Q E hr hg e0 hb r q => d.run A outer s H args us vs Q E (hr.mono h) hg e0 hb r q⟩
/-- a body run from its arguments; n: how many names -/
def runB (n : Nat) (b : Ss) : Fn := fun xs h => match b (xs.map some ++ List.replicate (n - xs.length) none) h with
  | .nx _ h' => .ok .non h'
  | .rt v h' => .ok v h'
  | .ex x _ h' => .ex x h'
  | _ => .bad
theorem sr_start {C : Ct} {ρ : List Addr} {H : Hp} {xs : List Va} {vs : List V} {N : List Str} (r : RpL C ρ H xs vs) : SR C ρ H (xs.map some ++ List.replicate (N.length - xs.length) none) (L2.start N vs) := by
  unfold L2.start
  refine ⟨by simp [r.length], fun i x q => ?_⟩
  by_cases hl : i < xs.length
  · rw [List.getElem?_append_left (by simpa using hl), List.getElem?_map] at q
    cases e : xs[i]? with
    | none => rw [e] at q; cases q
    | some y =>
      rw [e] at q
      cases q
      obtain ⟨v, h1, h2⟩ := r.get e
      refine ⟨v, ?_, h2⟩
      rw [List.getElem?_append_left (by rw [List.length_map, ← r.length]; exact hl), List.getElem?_map, h1]
      rfl
  · rw [List.getElem?_append_right (by simpa using hl), List.getElem?_replicate] at q
    split at q <;> cases q
section
variable {P : Program} {w : World} {K : PySem.W.Frag} {mg : Str → Option Value} {base : Heap}
/-- the context of a body -/
abbrev bodyX (P : Program) (w : World) (K : PySem.W.Frag) (mg : Str → Option Value) (base : Heap) (N : List Str) (qual : Str) (sc : Scope) (f : Addr) (cd : Value) (A : Around) (outer : List Env) (s : Shared) (H : Hp) (E : XK) : Cx := cxOf (L2.CX P w) P w K mg base N qual sc f cd A outer s H E
abbrev WB (E : XK) : WX := fun c d _ H => E c d H
theorem read_body {N : List Str} {X : Cx} {B : Ss} {body : List Stmt} {E : XK} {xs : List Va} {vs : List V} {Q : VK} {H : Hp} {ρ : List Addr} {h : Hs} {C : Ct} (r : RpL C ρ H xs vs) (hr : HR C ρ h H) (p : Po C (Rp C) E Q ρ H (runB N.length B xs h)) : tSt C (WB E) B { nx := fun _ H' => Q .non H', rt := Q } (L2.start N vs) H := by
  refine ⟨ρ, _, h, sr_start r, hr, ?_⟩
  unfold runB at p
  cases q : B (xs.map some ++ List.replicate (N.length - xs.length) none) h with
  | nx e h' => rw [q] at p; exact fun ρ' H' σ' ex hr' hs' => p ρ' H' .non ex hr' .non
  | rt v h' => rw [q] at p; exact p
  | bk e h' => rw [q] at p; exact p.elim
  | ct e h' => rw [q] at p; exact p.elim
  | ex x e h' => rw [q] at p; exact fun ρ' H' σ' c d ex hr' _ xr => p ρ' H' c d ex hr' xr
  | bad => rw [q] at p; exact p
theorem defOk_of {k : Nat} {f : Addr} {name qual : Str} {params : Arguments} {body : List Stmt} {sc : Scope} {dV kV doc pm cdv ct oc : Value} {an od : Option Addr} {osl : Array (Option Value)} {N ps : List Str} {B : Ss}
    (lk : K.lookup f = some ⟨oc, od, .func (PySem.W.fnOf name qual params body sc dV kV doc pm an cdv ct), osl⟩) (hcd : PySem.W.codeIn K cdv qual = true) (S : FnScope N ps sc)
    (hbody : ∀ (A : Around) (outer : List Env) (s : Shared) (H : Hp) (E : XK), Room k (A.deeper (envOfC qual sc s.heap.objs.size f cdv)) → A.guards = some [] → PSs (bodyX P w K mg base N qual sc f cdv A outer s H E) body (tSt ⟨K, mg⟩ (WB E) B)) :
    DefOk P w ⟨K, mg⟩ base (k + 1) f (PySem.W.fnOf name qual params body sc dV kV doc pm an cdv ct) ps (runB N.length B) := by
  constructor
  intro A outer s H args us vs Q E hr hg e0 hb r ⟨hl, ρ, h, xs, rx, hh, hp⟩
  have inK : K.In s.heap := e0.mod.kin.keeps fun b o e => (e0.bs b o e).1
  have nl : s.heap.NoLimit := e0.mod.nolimit.keeps fun b o e => (e0.bs b o e).1
  have kinds : ∀ y ∈ ps.zip us, sc.names.lookup y.1 = some .local ∨ (sc.names.lookup y.1 = some .cell ∧ ((cellsFrom (s.heap.objs.size + 1) sc.names []).lookup y.1).isSome = true) := by
    rintro ⟨n, v⟩ hy
    cases S.par n (List.of_mem_zip hy).1 with
    | inl q => exact Or.inl q
    | inr q => exact Or.inr ⟨q, PySem.W.cellsFrom_some _ _ _ (Or.inl q)⟩
  apply codeAny_call_function hr.depth (inK _ _ lk) rfl S.co S.gen rfl (PySem.W.codeRec_of inK hcd)
  apply hb
  apply wpAny_newFunctionEnv_cells S.kind kinds
  intro env he s1 x
  subst he
  refine ⟨nl.keeps x.toInCall.keep, codeAny_func ?_⟩
  have ht := hbody A outer s H E (hr.deeper _) hg
  have I : Inv (bodyX P w K mg base N qual sc f cdv A outer s H E) [] (L2.start N vs) H s1 := inv_start S hr.hd e0 hl r x
  have hq : tSt ⟨K, mg⟩ (WB E) B { nx := fun _ H' => Q .non H', rt := Q } (L2.start N vs) H := read_body (X := bodyX P w K mg base N qual sc f cdv A outer s H E) (body := body) rx hh hp
  have fin : ∀ {s' : Shared} {σ' : L2.St} {H' : Hp} {v : V} {u : Value}, Inv (bodyX P w K mg base N qual sc f cdv A outer s H E) [] σ' H' s' → RelV v u → Q v H' → CE outer P w H s Q u s' := by
    intro s' σ' H' v u J rv q
    exact ⟨v, H', J.os, J.bare, J.base, J.hok, rv, q⟩
  apply wpAny_mono (ht.run [] s1 (L2.start N vs) H _ I hq)
  · intro fl s' hs
    cases fl with
    | next =>
      obtain ⟨σ', H', J, q⟩ := hs
      exact fin (v := V.non) (u := Value.none) J rfl q
    | ret u =>
      obtain ⟨v, σ', H', J, rv, q⟩ := hs
      exact fin J rv q
    | brk => exact hs.elim fun _ z => z.elim fun _ y => False.elim y.2
    | cont => exact hs.elim fun _ z => z.elim fun _ y => False.elim y.2
  · intro e s' hs
    exact hs
end

/-! ### calls -/
/-- a def that stands under a name -/
structure Gfn (P : Program) (w : World) (C : Ct) (base : Heap) (k : Nat) (x : Str) (st : Stmt) (ps : List Str) (F : Fn) : Prop where
  ex : ∃ (f : Addr) (fd : FuncData), C.mg x = some (.ref f) ∧ PySem.W.keepIn C.K (.ref f) = true ∧ DefOk P w C base k f fd ps F ∧
    ∀ (us : List Value) (kw : List (Str × Value)) (r : List Value), (∀ (kV doc pm : Value) (an : Option Addr) (cdv ct : Value), bindArgs (PySem.W.fnOf x x (defArgs st) (defBody st) (defScope st) .none kV doc pm an cdv ct) ⟨us, kw⟩ = pure (ps.zip r)) → ∀ s, BindsTo s fd ⟨us, kw⟩ (ps.zip r)
theorem Gfn.mono {P : Program} {w : World} {C : Ct} {base : Heap} {j k : Nat} {x : Str} {st : Stmt} {ps : List Str} {F : Fn} (g : Gfn P w C base j x st ps F) (h : j ≤ k) : Gfn P w C base k x st ps F := by
  obtain ⟨f, fd, h1, h2, h3, h4⟩ := g.ex
  exact ⟨f, fd, h1, h2, h3.mono h, h4⟩
/-- how a call's values come to the parameters: n by place, m by name -/
def KwB (x : Str) (st : Stmt) (ps ks : List Str) (n m : Nat) (π : List Nat) : Prop := π.length = ps.length ∧ (∀ j ∈ π, j < n + m) ∧ ∀ (us ws : List Value), us.length = n → ws.length = m → ∀ (kV doc pm : Value) (an : Option Addr) (cdv ct : Value),
  bindArgs (PySem.W.fnOf x x (defArgs st) (defBody st) (defScope st) .none kV doc pm an cdv ct) ⟨us, ks.zip ws⟩ = pure (ps.zip (π.filterMap fun j => (us ++ ws)[j]?))
def sCall (F : Fn) (n : Nat) (π : List Nat) (f : Sm (List Va)) : Sx := bnd f fun xs => if xs.length = n then vl (F (π.filterMap fun j => xs[j]?)) else fun _ _ => .bad
def sCallK (F : Fn) (n m : Nat) (π : List Nat) (f g : Sm (List Va)) : Sx := bnd f fun xs => bnd g fun zs => if xs.length = n ∧ zs.length = m then vl (F (π.filterMap fun j => (xs ++ zs)[j]?)) else fun _ _ => .bad
theorem vals_pick {vs : List V} {us : List Value} (r : Vals vs us) : ∀ π : List Nat, Vals (π.filterMap fun j => vs[j]?) (π.filterMap fun j => us[j]?)
  | [] => .nil
  | j :: π => by
    have ih := vals_pick r π
    cases e : vs[j]? with
    | none => simp only [List.filterMap_cons, e, r.none_of e]; exact ih
    | some v =>
      obtain ⟨u, h1, h2⟩ := r.get e
      simp only [List.filterMap_cons, e, h1]
      exact .cons h2 ih
theorem rp_pick {C : Ct} {ρ : List Addr} {H : Hp} {vs : List Va} {us : List V} (r : RpL C ρ H vs us) : ∀ π : List Nat, RpL C ρ H (π.filterMap fun j => vs[j]?) (π.filterMap fun j => us[j]?)
  | [] => .nil
  | j :: π => by
    have ih := rp_pick r π
    cases e : vs[j]? with
    | none =>
      have e2 : us[j]? = none := by
        have := List.getElem?_eq_none_iff.mp e
        exact List.getElem?_eq_none_iff.mpr (by rw [← r.length]; exact this)
      simp only [List.filterMap_cons, e, e2]; exact ih
    | some v =>
      obtain ⟨u, h1, h2⟩ := r.get e
      simp only [List.filterMap_cons, e, h1]
      exact .cons h2 ih
theorem pick_len {α : Type} {xs : List α} {n : Nat} (hx : xs.length = n) : ∀ {π : List Nat}, (∀ j ∈ π, j < n) → (π.filterMap fun j => xs[j]?).length = π.length
  | [], _ => rfl
  | j :: π, h => by
    have hj : j < xs.length := by rw [hx]; exact h j List.mem_cons_self
    simp only [List.filterMap_cons, List.getElem?_eq_getElem hj, List.length_cons]
    rw [pick_len hx fun i hi => h i (List.mem_cons_of_mem _ hi)]
section
variable {X : Cx} {W : WX} {k j : Nat} {x : Str} {st : Stmt} {ps ks : List Str} {F : Fn} {π : List Nat} {fa : Sm (List Va)} {p pos : Pos} {e : Expr} {es : List Expr} {kws : List Keyword}
/-- the callee runs -/
theorem run_def {f : Addr} {fd : FuncData} (D : DefOk X.prog X.w (ctOf X) X.base j f fd ps F) (hr : Room k X.A) (hj : j ≤ k) (hg : X.A.guards = some []) (tk : Takes X W) {pins : List (Addr × Obj)} {s : Shared} {σ : L2.St} {H : Hp} {Q : VK} {us : List Value} {kw : List (Str × Value)} {r : List Value} {vs : List V}
    (I : Inv X pins σ H s) (hb : BindsTo s fd ⟨us, kw⟩ (ps.zip r)) (rv : Vals vs r) (h : SpF (ctOf X) F ps.length vs H Q (WE W σ)) : wpAny (model X.prog X.w) X.A (call (.ref f) us kw) (EP X pins σ Q) X.xe s := by
  refine wpAny_call (codeAny_mono (D.run X.A X.stack s H ⟨us, kw⟩ r vs Q (WE W σ) (hr.mono hj) hg I.env0 hb rv h) fun res s' hq => ?_)
  cases res with
  | error e => exact passAt tk σ pins H s e s' I hq
  | ok fl => cases fl with
    | ret u => exact I.after hq
    | _ => exact False.elim hq
/-- f(a, b, .., x = c, ..): every value first, then the callee -/
theorem po_call {σ : L2.St} {Q : VK} {ρ : List Addr} {H : Hp} {h : Hs} {xs : List Va} {vs : List V} {n : Nat} (hr : HR (ctOf X) ρ h H) (r : RpL (ctOf X) ρ H xs vs) (hn : vs.length = n) (hπ : π.length = ps.length) (hj : ∀ j ∈ π, j < n) (p : Po (ctOf X) (Rp (ctOf X)) (fun c d H' => W c d σ H') Q ρ H (F (π.filterMap fun j => xs[j]?) h)) :
    SpF (ctOf X) F ps.length (π.filterMap fun j => vs[j]?) H Q (WE W σ) := ⟨by rw [pick_len hn hj, hπ], ρ, h, _, rp_pick r π, hr, p⟩
theorem se_call (n : Nat) (G : Gfn X.prog X.w (ctOf X) X.base j x st ps F) (hr : Room k X.A) (hj : j ≤ k) (hg : X.A.guards = some []) (tk : Takes X W) (hx : Gl X x) (B : KwB x st ps [] n 0 π) (ha : PA X (e :: es) (tAr (ctOf X) W fa))
    (hdb : (x == ("__debug__" : Str)) = false := by decide) (he : starEach (e :: es) X.env = (false, eval e X.env) :: starEach es X.env := by rfl) (hpl : (backTo pos (starEach es X.env)).any (·.1) = false := by rfl) :
    PE X (.Call (.Name x p) (e :: es) [] pos) (tE (ctOf X) W (sCall F n π fa)) := by
  obtain ⟨f, fd, hm, hk, D, hb⟩ := G.ex
  refine ⟨fun pins s σ H Q I h => wpAny_Call_Name_kw (ld_glob I hx hm ?_ hdb)⟩
  have h2 : tAr (ctOf X) W fa σ H fun vs H1 => vs.length = n ∧ SpF (ctOf X) F ps.length (π.filterMap fun j => vs[j]?) H1 Q (WE W σ) := tX_bnd h fun ρ H1 e1 h1 xs vs hs hh rv pp => by
    split at pp
    · rename_i hl
      have hl2 : vs.length = n + 0 := by rw [← rv.length]; exact hl
      exact ⟨hl2, po_call hh rv hl2 B.1 B.2.1 pp⟩
    · exact pp.elim
  refine PySem.W.callWith_K (h₀ := X.base) I.ok.mod.kin hk (thn (ha.run pos pins s σ H _ I h2) fun us s1 ⟨vs, H1, I1, r, hl, q⟩ => ⟨I1.kIn, ?_⟩) he hpl
  have hlu : us.length = n := by rw [← r.length]; exact hl
  have q2 := hb us [] _ (fun a b c d e f => by have := B.2.2 us [] hlu rfl a b c d e f; simpa using this) s1
  exact run_def D hr hj hg tk I1 q2 (vals_pick r π) q
theorem se_call0 (G : Gfn X.prog X.w (ctOf X) X.base j x st ps F) (hr : Room k X.A) (hj : j ≤ k) (hg : X.A.guards = some []) (tk : Takes X W) (hx : Gl X x) (B : KwB x st ps [] 0 0 π) (hdb : (x == ("__debug__" : Str)) = false := by decide) :
    PE X (.Call (.Name x p) [] [] pos) (tE (ctOf X) W (sCall F 0 π sNil)) := by
  obtain ⟨f, fd, hm, hk, D, hb⟩ := G.ex
  refine ⟨fun pins s σ H Q I h => wpAny_Call_Name_kw (ld_glob I hx hm ?_ hdb)⟩
  obtain ⟨ρ, e, hh, hs, hr', pp⟩ := h
  refine PySem.W.callWith_K0 I.kIn hk ?_
  have q2 := hb [] [] _ (fun a b c d e f => by have := B.2.2 [] [] rfl rfl a b c d e f; simpa using this) s
  exact run_def D hr hj hg tk I q2 (vals_pick .nil π) (po_call (xs := []) (vs := []) (n := 0 + 0) hr' .nil rfl B.1 B.2.1 pp)
theorem sk_nil : PK X [] (tAr (ctOf X) W sNil) := pk_of pk_nil tNil_of
theorem sk_cons {nm : Option Str} {a : Expr} {fa : Sx} {fr : Sm (List Va)} {kpos : Pos} (ha : PE X a (tE (ctOf X) W fa)) (hr : PK X kws (tAr (ctOf X) W fr)) : PK X (⟨nm, a, kpos⟩ :: kws) (tAr (ctOf X) W (sCons fa fr)) := pk_of (pk_cons ha hr) tCons_of
theorem two_reads {n m : Nat} {fk : Sm (List Va)} {σ : L2.St} {H : Hp} {Q : VK} (B : KwB x st ps ks n m π) (h : tE (ctOf X) W (sCallK F n m π fa fk) σ H Q) :
    tAr (ctOf X) W fa σ H fun vs H1 => tAr (ctOf X) W fk σ H1 fun zs H2 => (vs.length = n ∧ zs.length = m) ∧ SpF (ctOf X) F ps.length (π.filterMap fun j => (vs ++ zs)[j]?) H2 Q (WE W σ) :=
  tX_bnd h fun ρ H1 e1 h1 xs vs hs hh rv pp => Po_bnd hs hh pp fun ρ2 H2 h2 zs us e2 hs2 hh2 ru p2 => by
    split at p2
    · rename_i hl
      have r := (rv.mono e2).append ru
      have l1 := rv.length
      have l2 := ru.length
      exact ⟨⟨by omega, by omega⟩, po_call hh2 r (by rw [List.length_append]; omega) B.1 B.2.1 p2⟩
    · exact p2.elim
theorem se_callK (n m : Nat) {fk : Sm (List Va)} (G : Gfn X.prog X.w (ctOf X) X.base j x st ps F) (hr : Room k X.A) (hj : j ≤ k) (hg : X.A.guards = some []) (tk : Takes X W) (hx : Gl X x) (B : KwB x st ps ks n m π) (ha : PA X (e :: es) (tAr (ctOf X) W fa)) (hkw : PK X kws (tAr (ctOf X) W fk))
    (hal : (backToKw pos (keywordEach kws X.env)).all (·.1.isSome) = true := by rfl) (hks : (backToKw pos (keywordEach kws X.env)).filterMap (·.1) = ks := by rfl)
    (hdb : (x == ("__debug__" : Str)) = false := by decide) (he : starEach (e :: es) X.env = (false, eval e X.env) :: starEach es X.env := by rfl)
    (hpl : ((backTo pos (starEach (e :: es) X.env)).any (·.1) || (backToKw pos (keywordEach kws X.env)).any (·.1.isNone)) = false := by rfl) :
    PE X (.Call (.Name x p) (e :: es) kws pos) (tE (ctOf X) W (sCallK F n m π fa fk)) := by
  obtain ⟨f, fd, hm, hk, D, hb⟩ := G.ex
  refine ⟨fun pins s σ H Q I h => wpAny_Call_Name_kw (ld_glob I hx hm ?_ hdb)⟩
  refine PySem.W.callWith_KW (h₀ := X.base) I.ok.mod.kin hk hal (thn (ha.run pos pins s σ H _ I (two_reads B h)) fun us s1 ⟨vs, H1, I1, r, q⟩ => ?_) hpl he
  refine thn (hkw.run pos pins s1 σ H1 _ I1 q) fun ws s2 ⟨zs, H2, I2, rz, ⟨hl1, hl2⟩, q2⟩ => ⟨I2.kIn, ?_⟩
  rw [hks]
  have q3 := hb us (ks.zip ws) _ (B.2.2 us ws (by rw [← r.length]; exact hl1) (by rw [← rz.length]; exact hl2)) s2
  exact run_def D hr hj hg tk I2 q3 (vals_pick (r.append rz) π) q2
/-- f(x = c, ..) -/
theorem se_callK0 (m : Nat) {fk : Sm (List Va)} (G : Gfn X.prog X.w (ctOf X) X.base j x st ps F) (hr : Room k X.A) (hj : j ≤ k) (hg : X.A.guards = some []) (tk : Takes X W) (hx : Gl X x) (B : KwB x st ps ks 0 m π) (hkw : PK X kws (tAr (ctOf X) W fk))
    (hal : (backToKw pos (keywordEach kws X.env)).all (·.1.isSome) = true := by rfl) (hks : (backToKw pos (keywordEach kws X.env)).filterMap (·.1) = ks := by rfl)
    (hdb : (x == ("__debug__" : Str)) = false := by decide) (hpl : ((backTo pos (starEach [] X.env)).any (·.1) || (backToKw pos (keywordEach kws X.env)).any (·.1.isNone)) = false := by rfl) :
    PE X (.Call (.Name x p) [] kws pos) (tE (ctOf X) W (sCallK F 0 m π sNil fk)) := by
  obtain ⟨f, fd, hm, hk, D, hb⟩ := G.ex
  refine ⟨fun pins s σ H Q I h => wpAny_Call_Name_kw (ld_glob I hx hm ?_ hdb)⟩
  have h2 := two_reads B h
  obtain ⟨ρ, e, hh, hs, hr', pp⟩ := h2
  have q := pp ρ H [] .refl hr' .nil
  refine PySem.W.callWith_KW0 (h₀ := X.base) I.ok.mod.kin hk hal (thn (hkw.run pos pins s σ H _ I q) fun ws s2 ⟨zs, H2, I2, rz, ⟨hl1, hl2⟩, q2⟩ => ⟨I2.kIn, ?_⟩) hpl
  rw [hks]
  have q3 := hb [] (ks.zip ws) _ (B.2.2 [] ws rfl (by rw [← rz.length]; exact hl2)) s2
  exact run_def D hr hj hg tk I2 q3 (vals_pick (Vals.append .nil rz) π) q2
end
end Fw

set_option Elab.async false
set_option linter.all false
set_option maxRecDepth 100000
set_option maxHeartbeats 2000000
set_option autoImplicit false
namespace Fw
open PySem PySem.Spec L2
open PyProof.Rows hiding St

/-! ### values without places; a callee in a heap of its own -/
mutual
def lf : Va → Bool
  | .tup xs => lfL xs
  | .ros xs => lfL xs
  | .loc _ => false
  | .non => true
  | .bl _ => true
  | .int _ => true
  | .str _ => true
  | .fn _ => true
  | .ty _ => true
  | .rg _ _ _ => true
def lfL : List Va → Bool
  | [] => true
  | x :: xs => lf x && lfL xs
end
mutual
def shf (k : Nat) : Va → Va
  | .tup xs => .tup (shfL k xs)
  | .ros xs => .ros (shfL k xs)
  | .loc n => .loc (k + n)
  | .non => .non
  | .bl b => .bl b
  | .int i => .int i
  | .str s => .str s
  | .fn x => .fn x
  | .ty x => .ty x
  | .rg i j c => .rg i j c
def shfL (k : Nat) : List Va → List Va
  | [] => []
  | x :: xs => shf k x :: shfL k xs
end
def shfK (k : Nat) : List (Va × Va) → List (Va × Va)
  | [] => []
  | (a, x) :: r => (a, shf k x) :: shfK k r
def shfO (k : Nat) : Ob → Ob
  | .lst xs => .lst (shfL k xs)
  | .dct kvs => .dct (shfK k kvs)
section
variable {C : Ct} {ρ ρ' : List Addr} {H : Hp}
mutual
theorem Rp.lf_ : ∀ {x : Va} {v : V}, Rp C ρ H x v → lf x = true → Rp C ρ' H x v
  | _, _, .non, _ => .non
  | _, _, .bl b, _ => .bl b
  | _, _, .int i, _ => .int i
  | _, _, .str s, _ => .str s
  | _, _, .tup h r, e => .tup h (RpL.lf_ r (by simpa [lf] using e))
  | _, _, .ros h r, e => .ros h (RpL.lf_ r (by simpa [lf] using e))
  | _, _, .loc _, e => by simp [lf] at e
  | _, _, .fn h, _ => .fn h
  | _, _, .ty n, _ => .ty n
  | _, _, .rg h, _ => .rg h
theorem RpL.lf_ : ∀ {x : List Va} {v : List V}, RpL C ρ H x v → lfL x = true → RpL C ρ' H x v
  | _, _, .nil, _ => .nil
  | _, _, .cons h r, e => .cons (Rp.lf_ h (by simp only [lfL, Bool.and_eq_true] at e; exact e.1)) (RpL.lf_ r (by simp only [lfL, Bool.and_eq_true] at e; exact e.2))
end
mutual
theorem Rp.shf_ : ∀ {x : Va} {v : V}, Rp C ρ' H x v → Rp C (ρ ++ ρ') H (shf ρ.length x) v
  | _, _, .non => by simp only [shf]; exact .non
  | _, _, .bl b => by simp only [shf]; exact .bl b
  | _, _, .int i => by simp only [shf]; exact .int i
  | _, _, .str s => by simp only [shf]; exact .str s
  | _, _, .tup h r => by simp only [shf]; exact .tup h (RpL.shf_ r)
  | _, _, .ros h r => by simp only [shf]; exact .ros h (RpL.shf_ r)
  | _, _, .loc h => by simp only [shf]; exact .loc (by rw [List.getElem?_append_right (Nat.le_add_right _ _), Nat.add_sub_cancel_left]; exact h)
  | _, _, .fn h => by simp only [shf]; exact .fn h
  | _, _, .ty n => by simp only [shf]; exact .ty n
  | _, _, .rg h => by simp only [shf]; exact .rg h
theorem RpL.shf_ : ∀ {x : List Va} {v : List V}, RpL C ρ' H x v → RpL C (ρ ++ ρ') H (shfL ρ.length x) v
  | _, _, .nil => by simp only [shfL]; exact .nil
  | _, _, .cons h r => by simp only [shfL]; exact .cons (Rp.shf_ h) (RpL.shf_ r)
end
end
section
variable {C : Ct} {ρ ρ' : List Addr} {H : Hp}
theorem RpK.shf_ : ∀ {xs : List (Va × Va)} {vs : List (Key × V)}, RpK C ρ' H xs vs → RpK C (ρ ++ ρ') H (shfK ρ.length xs) vs
  | _, _, .nil => by simp only [shfK]; exact .nil
  | _, _, .cons e r rs => by simp only [shfK]; exact .cons e (Rp.shf_ r) (RpK.shf_ rs)
end
/-- the answer of a callee that ran by itself, over the heap h -/
def graft (h : Hs) : Rs Va → Rs Va
  | .ok x h' => if lf x = true then .ok x h else match x with
    | .loc m => match h'[m]? with
      | some (.lst ys) => if lfL ys = true then .ok (.loc h.length) (h ++ [.lst ys]) else .ok (.loc (h.length + m)) (h ++ h'.map (shfO h.length))
      | some (.dct _) => .ok (.loc (h.length + m)) (h ++ h'.map (shfO h.length))
      | none => .bad
    | x => .ok (shf h.length x) (h ++ h'.map (shfO h.length))
  | .ex x h' => if lfL (x.fs.map (·.2)) = true then .ex x h else .bad
  | .bad => .bad
def pureF (F : Fn) : Fn := fun xs h => if lfL xs = true then graft h (F xs []) else .bad
section
variable {C : Ct} {ρ ρ' : List Addr} {H H' : Hp} {h h' : Hs}
theorem Ext.weak (e : Ext C [] H ρ' H') : Ext C ρ H ρ H' := ⟨fun _ _ q => q, e.tup, e.frz, fun _ _ q => .inl q, fun a o q _ => e.frm a o q (fun n z => by simp at z), e.liv⟩
theorem HR.stay_ (hr : HR C ρ h H) (e : Ext C [] H ρ' H') : HR C ρ h H' := by
  refine ⟨hr.len, hr.nd, fun n o a hn ha => ?_⟩
  have q := hr.ob n o a hn ha
  revert q
  cases o with
  | lst xs => rintro ⟨vs, e1, e2⟩; exact ⟨vs, e.frm a _ e1 (fun n z => by simp at z), e2.mono (e.weak)⟩
  | dct k => rintro ⟨vs, e1, e2⟩; exact ⟨vs, e.frm a _ e1 (fun n z => by simp at z), e2.mono (e.weak)⟩
theorem HR.join (hr : HR C ρ h H) (e : Ext C [] H ρ' H') (hr' : HR C ρ' h' H') : Ext C ρ H (ρ ++ ρ') H' ∧ HR C (ρ ++ ρ') (h ++ h'.map (shfO h.length)) H' := by
  have hs := hr.stay_ e
  have x0 : Ex0 C ρ H' (ρ ++ ρ') H' := ⟨fun n a q => by rw [List.getElem?_append_left (List.getElem?_eq_some_iff.mp q).1]; exact q, fun _ _ q => q, fun _ _ _ q => q⟩
  have fresh : ∀ (n : Nat) (a : Addr), ρ'[n]? = some a → H a = none := fun n a q => by
    rcases e.new n a q with z | z
    · simp at z
    · exact z
  have cs : ∀ (n : Nat) (a : Addr), (ρ ++ ρ')[n]? = some a → (n < ρ.length ∧ ρ[n]? = some a) ∨ (ρ.length ≤ n ∧ ρ'[n - ρ.length]? = some a) := fun n a q => by
    by_cases hl : n < ρ.length
    · rw [List.getElem?_append_left hl] at q; exact .inl ⟨hl, q⟩
    · rw [List.getElem?_append_right (by omega)] at q; exact .inr ⟨by omega, q⟩
  refine ⟨⟨fun n a q => x0.pre n a q, e.tup, e.frz, fun n a q => ?_, fun a o q _ => e.frm a o q (fun n z => by simp at z), e.liv⟩, ⟨by simp [hr.len, hr'.len], fun i j a hi hj => ?_, fun n o a ho ha => ?_⟩⟩
  · rcases cs n a q with ⟨_, q⟩ | ⟨_, q⟩
    · exact .inl q
    · exact .inr (fresh _ a q)
  · rcases cs i a hi with ⟨l1, q1⟩ | ⟨l1, q1⟩ <;> rcases cs j a hj with ⟨l2, q2⟩ | ⟨l2, q2⟩
    · exact hr.nd i j a q1 q2
    · obtain ⟨o, ho⟩ := hr.sm_ q1
      rw [fresh _ a q2] at ho; cases ho
    · obtain ⟨o, ho⟩ := hr.sm_ q2
      rw [fresh _ a q1] at ho; cases ho
    · have := hr'.nd _ _ a q1 q2
      omega
  · rcases cs n a ha with ⟨l, q⟩ | ⟨l, q⟩
    · rw [List.getElem?_append_left (by rw [← hr.len]; exact l)] at ho
      have z := hs.ob n o a ho q
      revert z
      cases o with
      | lst ys => rintro ⟨vs, e1, e2⟩; exact ⟨vs, e1, e2.keep x0⟩
      | dct k => rintro ⟨vs, e1, e2⟩; exact ⟨vs, e1, e2.keep x0⟩
    · rw [List.getElem?_append_right (by rw [← hr.len]; exact l), List.getElem?_map, ← hr.len] at ho
      cases z : h'[n - ρ.length]? with
      | none => rw [z] at ho; cases ho
      | some o' =>
        rw [z] at ho
        cases ho
        have w := hr'.ob _ o' a z q
        revert w
        cases o' with
        | lst ys => rintro ⟨vs, e1, e2⟩; exact ⟨vs, e1, by exact e2.shf_⟩
        | dct k => rintro ⟨vs, e1, e2⟩; exact ⟨vs, e1, by exact e2.shf_⟩
theorem graft_of {F : Fn} {xs : List Va} {W : XK} {Q : VK} (hr : HR C ρ h H) (p : Po C (Rp C) W Q ρ H (graft h (F xs []))) : Po C (Rp C) W Q [] H (F xs []) := by
  cases q : F xs [] with
  | ok x h' =>
    rw [q] at p
    intro ρ' H' v e hr' rv
    have p : Po C (Rp C) W Q ρ H (if lf x = true then .ok x h else _) := p
    split at p
    · rename_i hl
      exact p ρ H' v e.weak (hr.stay_ e) (rv.lf_ hl)
    · cases x with
      | loc m =>
        have p : Po C (Rp C) W Q ρ H (match h'[m]? with | some (.lst ys) => if lfL ys = true then .ok (.loc h.length) (h ++ [.lst ys]) else .ok (.loc (h.length + m)) (h ++ h'.map (shfO h.length)) | some (.dct _) => .ok (.loc (h.length + m)) (h ++ h'.map (shfO h.length)) | none => .bad) := p
        split at p
        · rename_i ys hm
          split at p
          · rename_i hl
            obtain ⟨a, vs, rfl, ha, hv, rl⟩ := hr'.ls_ hm rv
            have h0 : H a = none := by
              rcases e.new m a ha with z | z
              · simp at z
              · exact z
            have nn : ∀ n : Nat, ρ[n]? ≠ some a := fun n z => by
              obtain ⟨o, ho⟩ := hr.sm_ z
              rw [h0] at ho; cases ho
            obtain ⟨a1, a2, a3⟩ := (hr.stay_ e).adopt (e.weak (ρ := ρ)) h0 hv nn (rl.lf_ hl)
            exact p _ _ _ a1 a2 a3
          · obtain ⟨j1, j2⟩ := hr.join e hr'
            have := rv.shf_ (ρ := ρ)
            simp only [shf] at this
            rw [hr.len] at this
            exact p _ _ _ j1 j2 this
        · obtain ⟨j1, j2⟩ := hr.join e hr'
          have := rv.shf_ (ρ := ρ)
          simp only [shf] at this
          rw [hr.len] at this
          exact p _ _ _ j1 j2 this
        · exact p.elim
      | tup ys =>
        obtain ⟨j1, j2⟩ := hr.join e hr'
        have := rv.shf_ (ρ := ρ)
        rw [hr.len] at this
        exact p _ _ _ j1 j2 this
      | ros ys =>
        obtain ⟨j1, j2⟩ := hr.join e hr'
        have := rv.shf_ (ρ := ρ)
        rw [hr.len] at this
        exact p _ _ _ j1 j2 this
      | _ => rename_i hl; exact absurd (by simp [lf]) hl
  | ex x h' =>
    rw [q] at p
    intro ρ' H' cls d e hr' xr
    have p : Po C (Rp C) W Q ρ H (if lfL (x.fs.map (·.2)) = true then .ex x h else .bad) := p
    split at p
    · rename_i hl
      refine p ρ H' cls d e.weak (hr.stay_ e) ?_
      obtain ⟨Cl, m1, m2, dd, vs, m3, m4, m5, m6⟩ := xr
      exact ⟨Cl, m1, m2, dd, vs, m3, m4, m5, m6.lf_ hl⟩
    · exact p.elim
  | bad => rw [q] at p; exact p
end
theorem DefOk.pure {P : Program} {w : World} {C : Ct} {base : Heap} {k : Nat} {f : Addr} {fd : FuncData} {ps : List Str} {F : Fn} (d : DefOk P w C base k f fd ps F) : DefOk P w C base k f fd ps (pureF F) := ⟨fun A outer s H args us vs Q E hr hg e0 hb r ⟨hl, ρ, h, xs, rx, hh, p⟩ => by
  unfold pureF at p
  split at p
  · rename_i hx
    exact d.run A outer s H args us vs Q E hr hg e0 hb r ⟨hl, [], [], xs, rx.lf_ hx, ⟨rfl, fun i j a h1 => by simp at h1, fun n o a h1 => by simp at h1⟩, graft_of hh p⟩
  · exact p.elim⟩
/-- another run with the same answers -/
theorem DefOk.to {P : Program} {w : World} {C : Ct} {base : Heap} {k : Nat} {f : Addr} {fd : FuncData} {ps : List Str} {F G : Fn} (d : DefOk P w C base k f fd ps F) (e : ∀ xs h, xs.length = ps.length → G xs h ≠ .bad → F xs h = G xs h) : DefOk P w C base k f fd ps G := ⟨fun A outer s H args us vs Q E hr hg e0 hb r ⟨hl, ρ, h, xs, rx, hh, p⟩ => by
  refine d.run A outer s H args us vs Q E hr hg e0 hb r ⟨hl, ρ, h, xs, rx, hh, ?_⟩
  by_cases hG : G xs h = .bad
  · rw [hG] at p; exact p.elim
  · rw [e xs h (by rw [rx.length, hl]) hG]; exact p⟩
theorem Gfn.pure {P : Program} {w : World} {C : Ct} {base : Heap} {k : Nat} {x : Str} {st : Stmt} {ps : List Str} {F : Fn} (g : Gfn P w C base k x st ps F) : Gfn P w C base k x st ps (pureF F) := by
  obtain ⟨f, fd, h1, h2, h3, h4⟩ := g.ex
  exact ⟨f, fd, h1, h2, h3.pure, h4⟩
theorem Gfn.to {P : Program} {w : World} {C : Ct} {base : Heap} {k : Nat} {x : Str} {st : Stmt} {ps : List Str} {F G : Fn} (g : Gfn P w C base k x st ps F) (e : ∀ xs h, xs.length = ps.length → G xs h ≠ .bad → F xs h = G xs h) : Gfn P w C base k x st ps G := by
  obtain ⟨f, fd, h1, h2, h3, h4⟩ := g.ex
  exact ⟨f, fd, h1, h2, h3.to e, h4⟩
end Fw

set_option Elab.async false
set_option linter.all false
set_option maxRecDepth 100000
set_option maxHeartbeats 2000000
set_option autoImplicit false
namespace Fw
open PySem PySem.Spec L2
open PyProof.Rows hiding St

/-! ### math.comb -/
namespace Cb
open PySem.Calls PySem.W
theorem entry_comb : entryFor table "math.comb" = some Builtin.«math.comb» := entryFor_of_tree (by kernel_rfl)
theorem kind_comb : builtinKind "math.comb" = none := by kernel_rfl
theorem plain_comb : plainId "math.comb" = true := by decide +kernel
theorem args_comb (a b : Value) : argsOk "math.comb" ⟨[a, b], []⟩ := by unfold argsOk; kernel_rfl
theorem run0 (a : Int) (t : Tok) (b : Int) (u : Tok) (h0 : ¬ a < 0) (h1 : ¬ b < 0) (h2 : b > a) : Gives (Builtin.«math.comb» ⟨[.int a t, .int b u], []⟩) (.int 0) :=
  .of_wp fun M A E s Q h => by obtain ⟨hp, g, d, tk, os⟩ := s; wp_walk; exact ⟨_, rfl, h⟩
abbrev val (a b : Int) : Int := Builtin.Math.fallingProduct a (min b (a - b)).toNat / Builtin.Math.fallingProduct (min b (a - b)) (min b (a - b)).toNat
theorem run1 (a : Int) (t : Tok) (b : Int) (u : Tok) (h0 : ¬ a < 0) (h1 : ¬ b < 0) (h2 : ¬ b > a) (c1 : ¬ min b (a - b) > Builtin.Math.maxSsize) (c2 : ¬ min b (a - b) > Builtin.Math.manyFactors) (c3 : ¬ min b (a - b) > 9000) (hsz : (val a b).natAbs.log2 < bitsLine) :
    Gives (Builtin.«math.comb» ⟨[.int a t, .int b u], []⟩) (.int (val a b)) :=
  .of_wp fun M A E s Q h => by
    obtain ⟨hp, g, d, tk, os⟩ := s; wp_walk
    (try (refine wpAny_ite_false (decide_eq_false (Nat.not_le.mpr hsz)) ?_; wp_walk)); exact ⟨_, rfl, h⟩
end Cb
def combZ (a b : Int) : Option Int := if 0 ≤ a ∧ 0 ≤ b ∧ a ≤ 1000 then (if b > a then some 0 else if (Cb.val a b).natAbs.log2 < 10000 then some (Cb.val a b) else none) else none
def rComb : List V → Hp → VK → Prop := fun vs H Q => ∃ a b c : Int, vs = [.int a, .int b] ∧ combZ a b = some c ∧ Q (.int c) H
theorem bits_ok {n : Nat} (h : n < 10000) : n < bitsLine := Nat.lt_trans h (by decide)
theorem cr_comb {X : Cx} : CallR X (.builtin "math.comb") rComb := by
  intro pins s σ H vs us Q I r h
  obtain ⟨a, b, c, rfl, e, q⟩ := h
  obtain ⟨t, u, rfl⟩ := Vals.int2 r
  unfold combZ at e
  split at e
  · rename_i c0
    split at e
    · rename_i c1
      cases e
      exact PySem.call_function_meets Cb.kind_comb Cb.plain_comb Cb.entry_comb (Cb.args_comb _ _) (Cb.run0 a t b u (by omega) (by omega) c1).meets ⟨.int _, H, I.tok _, ⟨_, rfl⟩, q⟩
    · rename_i c1
      split at e
      · rename_i c2
        cases e
        exact PySem.call_function_meets Cb.kind_comb Cb.plain_comb Cb.entry_comb (Cb.args_comb _ _) (Cb.run1 a t b u (by omega) (by omega) c1 (by unfold Builtin.Math.maxSsize; omega) (by unfold Builtin.Math.manyFactors; omega) (by omega) (bits_ok c2)).meets ⟨.int _, H, I.tok _, ⟨_, rfl⟩, q⟩
      · cases e
  · cases e

/-! ### repr of data -/
def rRepr (K : PySem.W.Frag) : List V → Hp → VK → Prop := fun vs H Q => ∃ x d, vs = [x] ∧ Dp K H x d ∧ d.depth ≤ 60 ∧ d.hasDict = false ∧ d.showable = true ∧ d.shown.length ≤ sizeLine ∧ Q (.str d.shown) H
theorem cr_repr {X : Cx} (hg : X.A.guards = some []) (hu : X.A.units + 64 < cLine) : CallR X (.builtin "repr") (rRepr X.K) := by
  intro pins s σ H vs us Q I r h
  obtain ⟨x, d, rfl, hd, h1, h2, h3, h4, q⟩ := h
  obtain ⟨u, rfl, ru⟩ := vals1 r
  obtain ⟨as, rd⟩ := Dp.reads I d x u hd ru
  have fin : ∀ h' u tk, (∀ b o, s.heap.get? b = some o → h'.get? b = some o) → EP X pins σ Q (.str d.shown u) { s with heap := h', toks := tk } := fun h' u tk hk => ⟨.str _, H, I.kept hk, ⟨_, rfl⟩, q⟩
  cases hd with
  | non =>
    cases ru
    simp only [PyData.shown] at fin
    exact PySem.P.repr_of_none (fin s.heap _ _ fun _ _ e => e)
  | bl b =>
    cases ru
    simp only [PyData.shown] at fin
    exact PySem.P.repr_of_bool (fin s.heap _ _ fun _ _ e => e)
  | int i =>
    obtain ⟨t, rfl⟩ := ru
    simp only [PyData.shown] at fin
    exact PySem.P.repr_of_int (by simpa [PyData.showable] using h3) (fin s.heap _ _ fun _ _ e => e)
  | str x =>
    obtain ⟨t, rfl⟩ := ru
    simp only [PyData.shown] at fin
    exact PySem.P.repr_of_str (fin s.heap _ _ fun _ _ e => e) (by simpa only [PyData.shown] using h4)
  | lst hq ha =>
    cases ru
    exact PySem.repr_of_reads' rd h3 (PySem.PyData.noDict_hsm h2) hg (by omega) (fun _ _ e => e) fin h4
  | tup hq ha =>
    cases ru
    exact PySem.repr_of_reads' rd h3 (PySem.PyData.noDict_hsm h2) hg (by omega) (fun _ _ e => e) fin h4
end Fw

set_option Elab.async false
set_option linter.all false
set_option maxRecDepth 100000
set_option maxHeartbeats 2000000
set_option autoImplicit false
namespace Fw
open PySem PySem.Spec L2
open PyProof.Rows hiding St

def asI : Va → Option Int
  | .int i => some i
  | _ => none
def asS : Va → Option (List Nat)
  | .str x => some x
  | _ => none
section
variable {C : Ct} {ρ : List Addr} {H : Hp} {h : Hs}
theorem ints_of : ∀ {xs : List Va} {vs : List V} {ns : List Int}, RpL C ρ H xs vs → mapO asI xs = some ns → vs = ns.map V.int
  | _, _, _, .nil, e => by cases e; rfl
  | _, _, _, .cons (x := x) (xs := xs) r rs, e => by
    unfold mapO at e
    split at e
    · rename_i y ys h1 h2
      cases e
      cases x <;> first | (cases h1; cases r; rw [ints_of rs h2]; rfl) | cases h1
    · cases e
theorem bools_of : ∀ {xs : List Va} {vs : List V} {ns : List Bool}, RpL C ρ H xs vs → mapO asB xs = some ns → vs = ns.map V.bl
  | _, _, _, .nil, e => by cases e; rfl
  | _, _, _, .cons (x := x) (xs := xs) r rs, e => by
    unfold mapO at e
    split at e
    · rename_i y ys h1 h2
      cases e
      cases x <;> first | (cases h1; cases r; rw [bools_of rs h2]; rfl) | cases h1
    · cases e
theorem strs_of : ∀ {xs : List Va} {vs : List V} {ns : List (List Nat)}, RpL C ρ H xs vs → mapO asS xs = some ns → vs = (ns.map fun x => (⟨x.toArray⟩ : Str)).map V.str
  | _, _, _, .nil, e => by cases e; rfl
  | _, _, _, .cons (x := x) (xs := xs) r rs, e => by
    unfold mapO at e
    split at e
    · rename_i y ys h1 h2
      cases e
      cases x <;> first | (cases h1; cases r; rw [strs_of rs h2]; rfl) | cases h1
    · cases e
/-- a list, however it lies -/
def lsA : Va → Hs → Option (List Va)
  | .loc n, h => match h[n]? with
    | some (.lst xs) => some xs
    | _ => none
  | .ros xs, _ => some xs
  | _, _ => none
theorem lsA_of (hr : HR C ρ h H) {x : Va} {v : V} (r : Rp C ρ H x v) {xs : List Va} (e : lsA x h = some xs) : ∃ a vs, v = .ref a ∧ SqL C.K H a vs ∧ RpL C ρ H xs vs := by
  cases x with
  | loc n =>
    have e : (match h[n]? with | some (.lst xs) => some xs | _ => none) = some xs := e
    split at e
    · rename_i ys hn
      cases e
      obtain ⟨a, vs, rfl, ha, hl, rl⟩ := hr.ls_ hn r
      exact ⟨a, vs, rfl, SqL.of hl, rl⟩
    · cases e
  | ros ys =>
    cases e
    cases r with
    | ros hq rl => exact ⟨_, _, rfl, hq.sq, rl⟩
  | _ => cases e
end
/-! ### built-ins by name -/
@[simp] def kLen : List Va → Hs → Rs Va
  | [.str x] => fun h => if x.length ≤ 16777216 then .ok (.int (x.length : Nat)) h else .bad
  | [.tup xs] => okI (xs.length : Nat)
  | [x] => fun h => match lsA x h with
    | some xs => .ok (.int (xs.length : Nat)) h
    | none => .bad
  | _ => fun _ => .bad
@[simp] def kInt : List Va → Hs → Rs Va
  | [.int i] => okI i
  | [.bl b] => okI (if b then 1 else 0)
  | _ => fun _ => .bad
@[simp] def kAbs : List Va → Hs → Rs Va
  | [.int i] => okI (if i < 0 then -i else i)
  | _ => fun _ => .bad
def kDvm : List Va → Hs → Rs Va
  | [.int i, .int j] => fun h => if 0 < j ∧ j < 1073741824 then .ok (.tup [.int (i / j), .int (i % j)]) h else .bad
  | _ => fun _ => .bad
def kMax : List Va → Hs → Rs Va
  | [.int i, .int j] => okI (if j > i then j else i)
  | _ => fun _ => .bad
def kMin : List Va → Hs → Rs Va
  | [.int i, .int j] => okI (if j < i then j else i)
  | _ => fun _ => .bad
def k1L {α : Type} (f : Va → Option α) (g : List α → Rs Va → Rs Va) : List Va → Hs → Rs Va := fun xs h => match xs with
  | [x] => match (lsA x h).bind (mapO f) with
    | some ns => g ns (.ok .non h)
    | none => .bad
  | _ => .bad
def on1 {α : Type} (f : Va → Option α) (g : List α → Va) : List Va → Hs → Rs Va := fun xs h => match xs with
  | [x] => match (lsA x h).bind (mapO f) with
    | some ns => .ok (g ns) h
    | none => .bad
  | _ => .bad
def kSum : List Va → Hs → Rs Va := on1 asI fun ns => .int ns.sum
def kAll : List Va → Hs → Rs Va := on1 asB fun bs => .bl (bs.all id)
def kAny : List Va → Hs → Rs Va := on1 asB fun bs => .bl (bs.any id)
def kTpl : List Va → Hs → Rs Va
  | [.tup xs] => fun h => .ok (.tup xs) h
  | [x] => fun h => match lsA x h with
    | some xs => .ok (.tup xs) h
    | none => .bad
  | _ => fun _ => .bad
def kLst : List Va → Hs → Rs Va
  | [.tup xs] => newL xs
  | [x] => fun h => match lsA x h with
    | some xs => newL xs h
    | none => .bad
  | _ => fun _ => .bad
def kRpr : List Va → Hs → Rs Va
  | [x] => fun h => match rdV h 24 x with
    | some d => if d.depth ≤ 60 ∧ d.hasDict = false ∧ d.showable = true ∧ d.shown.length ≤ 16777216 then .ok (.str d.shown.cps.toList) h else .bad
    | none => .bad
  | _ => fun _ => .bad
def kCmb : List Va → Hs → Rs Va
  | [.int a, .int b] => fun h => match combZ a b with
    | some c => .ok (.int c) h
    | none => .bad
  | _ => fun _ => .bad
@[simp] def kTyp : List Va → Hs → Rs Va
  | [.non] => fun h => .ok (.ty "NoneType") h
  | [.bl _] => fun h => .ok (.ty "bool") h
  | [.int _] => fun h => .ok (.ty "int") h
  | [.str _] => fun h => .ok (.ty "str") h
  | [.tup _] => fun h => .ok (.ty "tuple") h
  | [x] => fun h => match lsA x h with
    | some _ => .ok (.ty "list") h
    | none => .bad
  | _ => fun _ => .bad
def insI (x : Int) : List Int → List Int
  | [] => [x]
  | y :: ys => if x ≤ y then x :: y :: ys else y :: insI x ys
def srtI : List Int → List Int
  | [] => []
  | x :: xs => insI x (srtI xs)
theorem insI_perm (x : Int) : ∀ ys, (insI x ys).Perm (x :: ys)
  | [] => .refl _
  | y :: ys => by
    unfold insI
    split
    · exact .refl _
    · exact ((insI_perm x ys).cons y).trans (.swap x y ys)
theorem srtI_perm : ∀ xs, (srtI xs).Perm xs
  | [] => .refl _
  | x :: xs => (insI_perm x _).trans ((srtI_perm xs).cons x)
theorem insI_sorted (x : Int) : ∀ ys : List Int, ys.Pairwise (· ≤ ·) → (insI x ys).Pairwise (· ≤ ·)
  | [], _ => .cons (by simp) .nil
  | y :: ys, h => by
    unfold insI
    split
    · rename_i c
      refine .cons (fun z hz => ?_) h
      rcases List.mem_cons.mp hz with rfl | hz
      · exact c
      · exact Int.le_trans c ((List.pairwise_cons.mp h).1 z hz)
    · rename_i c
      refine .cons (fun z hz => ?_) (insI_sorted x ys (List.pairwise_cons.mp h).2)
      have hz' := (insI_perm x ys).mem_iff.mp hz
      rcases List.mem_cons.mp hz' with rfl | hz'
      · omega
      · exact (List.pairwise_cons.mp h).1 z hz'
theorem srtI_sorted : ∀ xs : List Int, (srtI xs).Pairwise (· ≤ ·)
  | [] => .nil
  | x :: xs => insI_sorted x _ (srtI_sorted xs)
theorem sorted_one {a b : List Int} (p : a.Perm b) (ha : a.Pairwise (· ≤ ·)) (hb : b.Pairwise (· ≤ ·)) : a = b := p.eq_of_pairwise (fun x y _ _ h1 h2 => Int.le_antisymm h1 h2) ha hb
def kSrtI : List Va → Hs → Rs Va := fun xs h => match xs with
  | [x] => match (lsA x h).bind (mapO asI) with
    | some ns => newL ((srtI ns).map Va.int) h
    | none => .bad
  | _ => .bad
section
variable {X : Cx}
theorem rpInts {C : Ct} {ρ : List Addr} {H : Hp} : ∀ ns : List Int, RpL C ρ H (ns.map Va.int) (ns.map V.int)
  | [] => .nil
  | n :: ns => .cons (.int n) (rpInts ns)
theorem one_arg {C : Ct} {ρ : List Addr} {H : Hp} {xs : List Va} {vs : List V} (r : RpL C ρ H xs vs) {x : Va} (e : xs = [x]) : ∃ v, vs = [v] ∧ Rp C ρ H x v := by
  subst e
  cases r with
  | cons r1 r2 => cases r2; exact ⟨_, rfl, r1⟩
theorem on1_of {α : Type} {f : Va → Option α} {g : List α → Va} {xs : List Va} {h : Hs} {W : XK} {Q : VK} {C : Ct} {ρ : List Addr} {H : Hp} {vs : List V} (hr : HR C ρ h H) (r : RpL C ρ H xs vs) (p : Po C (Rp C) W Q ρ H (on1 f g xs h)) : ∃ a ys ns us, vs = [.ref a] ∧ SqL C.K H a us ∧ RpL C ρ H ys us ∧ mapO f ys = some ns ∧ Po C (Rp C) W Q ρ H (.ok (g ns) h) := by
  unfold on1 at p
  split at p
  · rename_i x
    obtain ⟨v, rfl, rv⟩ := one_arg r rfl
    cases e : lsA x h with
    | none => rw [e] at p; exact p.elim
    | some ys =>
      obtain ⟨a, us, rfl, hq, rl⟩ := lsA_of hr rv e
      rw [e] at p
      cases e2 : mapO f ys with
      | none => simp only [Option.bind_some, e2] at p; exact p.elim
      | some ns =>
        simp only [Option.bind_some, e2] at p
        exact ⟨a, ys, ns, us, rfl, hq, rl, e2, p⟩
  · exact p.elim
theorem cs_len : CaK X (.builtin "len") kLen := ⟨_, CallR.or call_len_str call_len_seq, by
  intro ρ H h xs vs W Q hr r p
  unfold kLen at p
  split at p
  · obtain ⟨v, rfl, rv⟩ := one_arg r rfl
    cases rv
    split at p
    · rename_i hl
      exact .inl ⟨_, rfl, by rw [str_len, line_eq]; exact hl, by rw [str_len]; exact Po_ok p hr (.int _)⟩
    · exact p.elim
  · obtain ⟨v, rfl, rv⟩ := one_arg r rfl
    cases rv with
    | tup hq rl => exact .inr ⟨_, _, rfl, .inr hq, by rw [← rl.length]; exact Po_ok p hr (.int _)⟩
  · obtain ⟨v, rfl, rv⟩ := one_arg r rfl
    dsimp only at p
    split at p
    · rename_i ys e
      obtain ⟨a, us, rfl, hq, rl⟩ := lsA_of hr rv e
      exact .inr ⟨_, _, rfl, .inl hq, by rw [← rl.length]; exact Po_ok p hr (.int _)⟩
    · exact p.elim
  · exact p.elim⟩
theorem cs_int : CaK X (.type "int") kInt := ⟨_, call_int1, by
  intro ρ H h xs vs W Q hr r p
  unfold kInt at p
  split at p
  · obtain ⟨v, rfl, rv⟩ := one_arg r rfl
    cases rv
    exact .inl ⟨_, rfl, Po_ok p hr (.int _)⟩
  · obtain ⟨v, rfl, rv⟩ := one_arg r rfl
    cases rv
    exact .inr ⟨_, rfl, Po_ok p hr (.int _)⟩
  · exact p.elim⟩
theorem cs_abs : CaK X (.builtin "abs") kAbs := ⟨_, call_abs, by
  intro ρ H h xs vs W Q hr r p
  unfold kAbs at p
  split at p
  · obtain ⟨v, rfl, rv⟩ := one_arg r rfl
    cases rv
    exact ⟨_, rfl, Po_ok p hr (.int _)⟩
  · exact p.elim⟩
theorem two_args {C : Ct} {ρ : List Addr} {H : Hp} {i j : Int} {vs : List V} (r : RpL C ρ H [.int i, .int j] vs) : vs = [.int i, .int j] := by
  cases r with
  | cons r1 r2 => cases r1; cases r2 with | cons r2 r3 => cases r2; cases r3; rfl
theorem cs_dvm : CaK X (.builtin "divmod") kDvm := ⟨_, call_divmod, by
  intro ρ H h xs vs W Q hr r p
  unfold kDvm at p
  split at p
  · have e := two_args r
    subst e
    split at p
    · rename_i c
      exact ⟨_, _, rfl, c, Po_tup hr (.cons (.int _) (.cons (.int _) .nil)) p⟩
    · exact p.elim
  · exact p.elim⟩
theorem cs_max (hc : X.calm = true) : CaK X (.builtin "max") kMax := ⟨_, call_max2 hc, by
  intro ρ H h xs vs W Q hr r p
  unfold kMax at p
  split at p
  · have e := two_args r
    subst e
    exact ⟨_, _, rfl, Po_ok p hr (.int _)⟩
  · exact p.elim⟩
theorem cs_min (hc : X.calm = true) : CaK X (.builtin "min") kMin := ⟨_, call_min2 hc, by
  intro ρ H h xs vs W Q hr r p
  unfold kMin at p
  split at p
  · have e := two_args r
    subst e
    exact ⟨_, _, rfl, Po_ok p hr (.int _)⟩
  · exact p.elim⟩
theorem cs_sum (hc : X.calm = true) : CaK X (.builtin "sum") kSum := ⟨_, cr_sum hc, by
  intro ρ H h xs vs W Q hr r p
  obtain ⟨a, ys, ns, us, rfl, hq, rl, e, p⟩ := on1_of hr r p
  have := ints_of rl e
  subst this
  exact ⟨a, ns, rfl, hq, Po_ok p hr (.int _)⟩⟩
theorem cs_all (hc : X.calm = true) : CaK X (.builtin "all") kAll := ⟨_, cr_all hc, by
  intro ρ H h xs vs W Q hr r p
  obtain ⟨a, ys, ns, us, rfl, hq, rl, e, p⟩ := on1_of hr r p
  have := bools_of rl e
  subst this
  exact ⟨a, ns, rfl, hq, Po_ok p hr (.bl _)⟩⟩
theorem cs_any (hc : X.calm = true) : CaK X (.builtin "any") kAny := ⟨_, cr_any hc, by
  intro ρ H h xs vs W Q hr r p
  obtain ⟨a, ys, ns, us, rfl, hq, rl, e, p⟩ := on1_of hr r p
  have := bools_of rl e
  subst this
  exact ⟨a, ns, rfl, hq, Po_ok p hr (.bl _)⟩⟩
theorem cs_tpl : CaK X (.type "tuple") kTpl := ⟨_, call_tuple_of, by
  intro ρ H h xs vs W Q hr r p
  unfold kTpl at p
  split at p
  · obtain ⟨v, rfl, rv⟩ := one_arg r rfl
    cases rv with
    | tup hq rl => exact ⟨_, _, rfl, .inr ⟨hq, Po_ok p hr (.tup hq rl)⟩⟩
  · obtain ⟨v, rfl, rv⟩ := one_arg r rfl
    dsimp only at p
    split at p
    · rename_i ys e
      obtain ⟨a, us, rfl, hq, rl⟩ := lsA_of hr rv e
      exact ⟨_, _, rfl, .inl ⟨hq, Po_tup hr rl p⟩⟩
    · exact p.elim
  · exact p.elim⟩
theorem cs_lst : CaK X (.type "list") kLst := ⟨_, call_list_of, by
  intro ρ H h xs vs W Q hr r p
  unfold kLst at p
  split at p
  · obtain ⟨v, rfl, rv⟩ := one_arg r rfl
    cases rv with
    | tup hq rl => exact ⟨_, _, rfl, .inr hq, (newL_of hr rl p).2⟩
  · obtain ⟨v, rfl, rv⟩ := one_arg r rfl
    dsimp only at p
    split at p
    · rename_i ys e
      obtain ⟨a, us, rfl, hq, rl⟩ := lsA_of hr rv e
      exact ⟨_, _, rfl, .inl hq, (newL_of hr rl p).2⟩
    · exact p.elim
  · exact p.elim⟩
theorem str_back (x : Str) : (⟨x.cps.toList.toArray⟩ : Str) = x := by cases x; simp
theorem cs_rpr (hg : X.A.guards = some []) (hu : X.A.units + 64 < cLine) : CaK X (.builtin "repr") kRpr := ⟨_, cr_repr hg hu, by
  intro ρ H h xs vs W Q hr r p
  unfold kRpr at p
  split at p
  · obtain ⟨v, rfl, rv⟩ := one_arg r rfl
    split at p
    · rename_i d hd
      split at p
      · rename_i c
        refine ⟨v, d, rfl, rdV_dp hr 24 _ v d rv hd, c.1, c.2.1, c.2.2.1, by rw [line_eq]; exact c.2.2.2, ?_⟩
        have := Po_ok p hr (.str _)
        rw [str_back] at this
        exact this
      · exact p.elim
    · exact p.elim
  · exact p.elim⟩
theorem cs_cmb : CaK X (.builtin "math.comb") kCmb := ⟨_, cr_comb, by
  intro ρ H h xs vs W Q hr r p
  unfold kCmb at p
  split at p
  · have e := two_args r
    subst e
    split at p
    · rename_i c e
      exact ⟨_, _, c, rfl, e, Po_ok p hr (.int _)⟩
    · exact p.elim
  · exact p.elim⟩
theorem cs_typ : CaK X (.type "type") kTyp := ⟨_, call_type1, by
  intro ρ H h xs vs W Q hr r p
  unfold kTyp at p
  split at p <;> first
    | exact p.elim
    | (obtain ⟨v, rfl, rv⟩ := one_arg r rfl
       cases rv
       first
         | exact ⟨_, _, rfl, .non, Po_ok p hr (.ty _)⟩
         | exact ⟨_, _, rfl, .bl _, Po_ok p hr (.ty _)⟩
         | exact ⟨_, _, rfl, .int _, Po_ok p hr (.ty _)⟩
         | exact ⟨_, _, rfl, .str _, Po_ok p hr (.ty _)⟩
         | exact ⟨_, _, rfl, .tup (by assumption), Po_ok p hr (.ty _)⟩)
    | (obtain ⟨v, rfl, rv⟩ := one_arg r rfl
       dsimp only at p
       split at p
       · rename_i ys e
         obtain ⟨a, us, rfl, hq, rl⟩ := lsA_of hr rv e
         exact ⟨_, _, rfl, .lst hq, Po_ok p hr (.ty _)⟩
       · exact p.elim)⟩
theorem cs_srtI : CaK X (.builtin "sorted") kSrtI := ⟨_, cr_sortedI, by
  intro ρ H h xs vs W Q hr r p
  unfold kSrtI at p
  split at p
  · rename_i x
    obtain ⟨v, rfl, rv⟩ := one_arg r rfl
    cases e : lsA x h with
    | none => rw [e] at p; exact p.elim
    | some ys =>
      obtain ⟨a, us, rfl, hq, rl⟩ := lsA_of hr rv e
      rw [e] at p
      cases e2 : mapO asI ys with
      | none => simp only [Option.bind_some, e2] at p; exact p.elim
      | some ns =>
        simp only [Option.bind_some, e2] at p
        have := ints_of rl e2
        subst this
        refine ⟨a, ns, rfl, hq, fun ns' q pm so hq' => ?_⟩
        have e3 : ns' = srtI ns := sorted_one (pm.trans (srtI_perm ns).symm) so (srtI_sorted ns)
        subst e3
        exact (newL_of hr (rpInts _) p).2 q hq'
  · exact p.elim⟩
end
/-! ### the calls -/
def sBlt (k : List Va → Hs → Rs Va) (f : Sm (List Va)) : Sx := bnd f fun xs => vl (k xs)
section
variable {X : Cx} {W : WX} {x : Str} {id T : String} {k : List Va → Hs → Rs Va} {fa : Sm (List Va)} {p pos : Pos} {e : Expr} {es : List Expr}
theorem se_blt (hk : CaK X (.builtin id) k) (hg : Gl X x) (hm : X.mg x = none) (ha : PA X (e :: es) (tAr (ctOf X) W fa)) (hv : bootBuiltins x = some (.builtin id) := by decide +kernel) (hn : x ≠ "__name__" := by decide) (hdb : (x == ("__debug__" : Str)) = false := by decide)
    (he : starEach (e :: es) X.env = (false, eval e X.env) :: starEach es X.env := by rfl) (hpl : (backTo pos (starEach es X.env)).any (·.1) = false := by rfl) : PE X (.Call (.Name x p) (e :: es) [] pos) (tE (ctOf X) W (sBlt k fa)) := by
  obtain ⟨r, h1, h2⟩ := hk
  exact pe_of (pe_callB h1 hg hm hv ha hn hdb he hpl) (tC_call h2)
theorem se_bty (hk : CaK X (.type T) k) (hg : Gl X x) (hm : X.mg x = none) (ha : PA X (e :: es) (tAr (ctOf X) W fa)) (hv : bootBuiltins x = some (.type T) := by decide +kernel) (hn : x ≠ "__name__" := by decide) (hdb : (x == ("__debug__" : Str)) = false := by decide)
    (he : starEach (e :: es) X.env = (false, eval e X.env) :: starEach es X.env := by rfl) (hpl : (backTo pos (starEach es X.env)).any (·.1) = false := by rfl) : PE X (.Call (.Name x p) (e :: es) [] pos) (tE (ctOf X) W (sBlt k fa)) := by
  obtain ⟨r, h1, h2⟩ := hk
  exact pe_of (pe_callTy h1 hg hm hv ha hn hdb he hpl) (tC_call h2)
/-- a module's name for a built-in -/
theorem se_bfn (hk : CaK X (.builtin id) k) (hg : Gl X x) (hm : X.mg x = some (.builtin id)) (ha : PA X (e :: es) (tAr (ctOf X) W fa)) (hdb : (x == ("__debug__" : Str)) = false := by decide)
    (he : starEach (e :: es) X.env = (false, eval e X.env) :: starEach es X.env := by rfl) (hpl : (backTo pos (starEach es X.env)).any (·.1) = false := by rfl) : PE X (.Call (.Name x p) (e :: es) [] pos) (tE (ctOf X) W (sBlt k fa)) := by
  obtain ⟨r, h1, h2⟩ := hk
  exact pe_of (pe_callBfun h1 hg hm ha hdb he hpl) (tC_call h2)
end
end Fw

set_option Elab.async false
set_option linter.all false
set_option maxRecDepth 100000
set_option maxHeartbeats 2000000
set_option autoImplicit false
namespace Fw
open PySem PySem.Spec L2
open PyProof.Rows hiding St

/-! ### methods of built-in types -/
def tyA (T : String) : Va → Hs → Bool
  | .str _, _ => T == "str"
  | .loc n, h => T == "list" && (match h[n]? with
    | some (.lst _) => true
    | _ => false)
  | .ros _, _ => T == "list"
  | _, _ => false
def sMth (T : String) (k : Va → List Va → Hs → Rs Va) (o : Sx) (f : Sm (List Va)) : Sx := bnd o fun x e h => if tyA T x h = true then bnd f (fun xs => vl (k x xs)) e h else .bad
def MtK (X : Cx) (id : String) (k : Va → List Va → Hs → Rs Va) : Prop := ∃ r, MtR X id r ∧ ∀ (ρ : List Addr) (H : Hp) (h : Hs) (x : Va) (xs : List Va) (v : V) (vs : List V) (W : XK) (Q : VK), HR (ctOf X) ρ h H → Rp (ctOf X) ρ H x v → RpL (ctOf X) ρ H xs vs → Po (ctOf X) (Rp (ctOf X)) W Q ρ H (k x xs h) → r v vs H Q
theorem tyA_of {C : Ct} {ρ : List Addr} {H : Hp} {h : Hs} (hr : HR C ρ h H) {x : Va} {v : V} (r : Rp C ρ H x v) {T : String} (e : tyA T x h = true) : tyV C.K T v H := by
  cases r with
  | str s => exact eq_of_beq e
  | loc hq =>
    rename_i n a
    have e : (T == "list" && (match h[n]? with | some (.lst _) => true | _ => false)) = true := e
    rw [Bool.and_eq_true] at e
    refine .inl ⟨eq_of_beq e.1, ?_⟩
    have e2 := e.2
    split at e2
    · rename_i xs hn
      obtain ⟨vs, e3, _⟩ := hr.ob n _ _ hn hq
      exact ⟨vs, SqL.of e3⟩
    · cases e2
  | ros hq rl => exact .inl ⟨eq_of_beq e, _, hq.sq⟩
  | _ => cases e
section
variable {X : Cx} {W : WX} {o e : Expr} {es : List Expr} {fo : Sx} {fa : Sm (List Va)} {name : Str} {apos cpos : Pos} {T id : String} {k : Va → List Va → Hs → Rs Va}
theorem se_mth (pa : PlainAttrs T) (slot : Slot T name id) (hty : typeOf (.builtin id) = pure (.type "method_descriptor")) (hm : MtK X id k) (ho : PE X o (tE (ctOf X) W fo)) (ha : PA X (e :: es) (tAr (ctOf X) W fa))
    (hbase : attributeBase o name X.env (eval o X.env) = eval o X.env := by rfl)
    (hfew : ((backTo cpos (starEach (e :: es) X.env)).all (fun x => !x.1) && (backToKw cpos (keywordEach [] X.env)).all (fun x => x.1.isSome) && decide ((e :: es).length + ([] : List Keyword).length + (if ([] : List Keyword).isEmpty then 0 else 1) < 30)) = true := by rfl)
    (hline : (apos.endLine == cpos.line) = true := by rfl) (hs : starEach (e :: es) X.env = (false, eval e X.env) :: starEach es X.env := by rfl) (hpl : (backTo cpos (starEach es X.env)).any (·.1) = false := by rfl) :
    PE X (.Call (.Attribute o name apos) (e :: es) [] cpos) (tE (ctOf X) W (sMth T k fo fa)) := by
  obtain ⟨r, h1, h2⟩ := hm
  exact pe_of (pe_bm pa slot hty h1 ho ha hbase hfew hline hs hpl) fun σ H Q h => tX_bnd h fun ρ H1 e1 hh x v hs hr rv p => by
    split at p
    · rename_i ht
      exact ⟨tyA_of hr rv ht, Po_bnd (k := fun xs => vl (k x xs)) hs hr p fun ρ2 H2 h3 xs vs e2 hs2 hr2 rvs p2 => h2 ρ2 H2 h3 x xs v vs _ Q hr2 (rv.mono e2) rvs p2⟩
    · exact p.elim
theorem se_mth0 (pa : PlainAttrs T) (slot : Slot T name id) (hty : typeOf (.builtin id) = pure (.type "method_descriptor")) (hm : MtK X id k) (ho : PE X o (tE (ctOf X) W fo)) (hbase : attributeBase o name X.env (eval o X.env) = eval o X.env := by rfl) (hline : (apos.endLine == cpos.line) = true := by rfl) :
    PE X (.Call (.Attribute o name apos) [] [] cpos) (tE (ctOf X) W (sMth T k fo sNil)) := by
  obtain ⟨r, h1, h2⟩ := hm
  exact pe_of (pe_bm0 pa slot hty h1 ho hbase hline) fun σ H Q h => tX_bnd h fun ρ H1 e1 hh x v hs hr rv p => by
    split at p
    · rename_i ht
      exact ⟨tyA_of hr rv ht, h2 ρ H1 hh x [] v [] _ Q hr rv .nil p⟩
    · exact p.elim
end
def kApp : Va → List Va → Hs → Rs Va
  | .loc n, [y] => fun h => match h[n]? with
    | some (.lst xs) => if xs.length < 16777216 then .ok .non (h.set n (.lst (xs ++ [y]))) else .bad
    | _ => .bad
  | _, _ => fun _ => .bad
def kPop : Va → List Va → Hs → Rs Va
  | .loc n, [] => fun h => match h[n]? with
    | some (.lst xs) => match xs[xs.length - 1]? with
      | some y => .ok y (h.set n (.lst xs.dropLast))
      | none => .bad
    | _ => .bad
  | _, _ => fun _ => .bad
def joinL (a : List Nat) : List (List Nat) → List Nat
  | [] => []
  | [x] => x
  | x :: y :: r => x ++ a ++ joinL a (y :: r)
def kJoin : Va → List Va → Hs → Rs Va
  | .str a, [x] => fun h => match x with
    | .tup xs => match mapO asS xs with
      | some ys => if (ys.map (·.length)).sum + ys.length * a.length ≤ 16777216 then .ok (.str (joinL a ys)) h else .bad
      | none => .bad
    | x => match (lsA x h).bind (mapO asS) with
      | some ys => if (ys.map (·.length)).sum + ys.length * a.length ≤ 16777216 then .ok (.str (joinL a ys)) h else .bad
      | none => .bad
  | _, _ => fun _ => .bad
def kCnt : Va → List Va → Hs → Rs Va
  | .str x, [.str y] => okI (Txt.count ⟨x.toArray⟩ ⟨y.toArray⟩)
  | _, _ => fun _ => .bad
section
variable {X : Cx}
theorem ms_app : MtK X "list.append" kApp := ⟨rAppend, mt_append, by
  intro ρ H h x xs v vs W Q hr rv rs p
  unfold kApp at p
  split at p
  · rename_i n y
    obtain ⟨w, rfl, rw_⟩ := one_arg rs rfl
    split at p
    · rename_i ys hn
      obtain ⟨a, us, rfl, ha, hl, rl⟩ := hr.ls_ hn rv
      split at p
      · rename_i c
        obtain ⟨e1, e2⟩ := hr.write hn ha hl (rl.append (.cons rw_ .nil))
        exact ⟨a, us, w, rfl, rfl, hl, by rw [← rl.length, line_eq]; exact c, p ρ _ .non e1 e2 .non⟩
      · exact p.elim
    · exact p.elim
  · exact p.elim⟩
theorem dropLast_rp {C : Ct} {ρ : List Addr} {H : Hp} {xs : List Va} {vs : List V} (r : RpL C ρ H xs vs) : RpL C ρ H xs.dropLast vs.dropLast := by
  rw [List.dropLast_eq_take, List.dropLast_eq_take, ← r.length]
  exact r.take _
theorem ms_pop : MtK X "list.pop" kPop := ⟨rPop, mt_pop, by
  intro ρ H h x xs v vs W Q hr rv rs p
  unfold kPop at p
  split at p
  · rename_i n
    cases rs
    split at p
    · rename_i ys hn
      obtain ⟨a, us, rfl, ha, hl, rl⟩ := hr.ls_ hn rv
      split at p
      · rename_i y hy
        obtain ⟨w, q1, q2⟩ := rl.get hy
        obtain ⟨e1, e2⟩ := hr.write hn ha hl (dropLast_rp rl)
        exact ⟨a, us, w, rfl, rfl, hl, by rw [← rl.length]; exact q1, p ρ _ w e1 e2 (q2.mono e1)⟩
      · exact p.elim
    · exact p.elim
  · exact p.elim⟩
theorem glued_eq (a : List Nat) : ∀ ys : List (List Nat), Txt.join ⟨a.toArray⟩ (ys.map fun x => (⟨x.toArray⟩ : Str)) = ⟨(joinL a ys).toArray⟩ := by
  have go : ∀ (ys : List (List Nat)) (acc : List Nat), (ys.map fun x => (⟨x.toArray⟩ : Str)).foldl (fun acc p => acc ++ (⟨a.toArray⟩ : Str).cps ++ p.cps) acc.toArray = (acc ++ (ys.map fun x => a ++ x).flatten).toArray := by
    intro ys
    induction ys with
    | nil => intro acc; simp
    | cons y ys ih =>
      intro acc
      simp only [List.map_cons, List.foldl_cons, List.flatten_cons]
      have e : acc.toArray ++ a.toArray ++ y.toArray = (acc ++ (a ++ y)).toArray := by simp
      rw [e, ih]
      simp
  have jn : ∀ (ys : List (List Nat)) (x : List Nat), joinL a (x :: ys) = x ++ (ys.map fun x => a ++ x).flatten := by
    intro ys
    induction ys with
    | nil => intro x; simp [joinL]
    | cons y ys ih =>
      intro x
      simp only [joinL, ih, List.map_cons, List.flatten_cons, List.append_assoc]
  intro ys
  cases ys with
  | nil => rfl
  | cons y ys =>
    rw [jn]
    show (⟨((ys.map fun x => (⟨x.toArray⟩ : Str))).foldl (fun acc p => acc ++ (⟨a.toArray⟩ : Str).cps ++ p.cps) y.toArray⟩ : Str) = _
    rw [go]
theorem join_len (ys : List (List Nat)) : ((ys.map fun x => (⟨x.toArray⟩ : Str)).map (·.length)).sum = (ys.map (·.length)).sum := by
  rw [List.map_map]
  congr 1
theorem ms_join : MtK X "str.join" kJoin := ⟨_, mt_join, by
  intro ρ H h x xs v vs W Q hr rv rs p
  unfold kJoin at p
  split at p
  · rename_i a y
    obtain ⟨w, rfl, rw_⟩ := one_arg rs rfl
    cases rv
    have fin : ∀ (ys : List (List Nat)), (ys.map (·.length)).sum + ys.length * a.length ≤ 16777216 → Po (ctOf X) (Rp (ctOf X)) W Q ρ H (.ok (.str (joinL a ys)) h) →
        (((ys.map fun x => (⟨x.toArray⟩ : Str)).map (·.length)).sum + (ys.map fun x => (⟨x.toArray⟩ : Str)).length * (⟨a.toArray⟩ : Str).length ≤ 16777216 ∧ Q (.str (Txt.join ⟨a.toArray⟩ (ys.map fun x => (⟨x.toArray⟩ : Str)))) H) := fun ys hl p => by
      rw [join_len, List.length_map, str_len, glued_eq]
      exact ⟨hl, Po_ok p hr (.str _)⟩
    split at p
    · rename_i zs
      cases rw_ with
      | tup hq rl =>
      split at p
      · rename_i ys e
        split at p
        · rename_i c
          have e2 := strs_of rl e
          subst e2
          obtain ⟨f1, f2⟩ := fin ys c p
          exact ⟨_, _, _, rfl, rfl, .inr hq, f1, f2⟩
        · exact p.elim
      · exact p.elim
    · cases e : lsA y h with
      | none => rw [e] at p; exact p.elim
      | some zs =>
        obtain ⟨b, us, rfl, hq, rl⟩ := lsA_of hr rw_ e
        rw [e] at p
        cases e2 : mapO asS zs with
        | none => simp only [Option.bind_some, e2] at p; exact p.elim
        | some ys =>
          simp only [Option.bind_some, e2] at p
          split at p
          · rename_i c
            have e3 := strs_of rl e2
            subst e3
            obtain ⟨f1, f2⟩ := fin ys c p
            exact ⟨_, _, _, rfl, rfl, .inl hq, f1, f2⟩
          · exact p.elim
  · exact p.elim⟩
theorem ms_cnt : MtK X "str.count" kCnt := ⟨_, mt_count, by
  intro ρ H h x xs v vs W Q hr rv rs p
  unfold kCnt at p
  split at p
  · obtain ⟨w, rfl, rw_⟩ := one_arg rs rfl
    cases rv; cases rw_
    exact ⟨_, _, rfl, rfl, Po_ok p hr (.int _)⟩
  · exact p.elim⟩
end
/-! ### the end: the law's def, called with the script -/
section
variable {P : Program} {w : World} {K : PySem.W.Frag} {mg mb : Str → Option Value} {k : Nat} {fa a : Addr} {fd : FuncData} {x : Str} {F : Fn} {s : Shared} {us : List Value} {ns : List Int}
theorem law_run (KX : K.In s.heap) (hns : s.heap.Ns mainGlobals mg) (hb : s.heap.Ns builtinsNs mb) (hbb : ∀ x : Str, x ≠ "__name__" → mb x = bootBuiltins x) (hlim : s.heap.NoLimit) (hg : s.gens = #[])
    (ha : s.heap.get? a = some { cls := .type "list", data := .seq us.toArray }) (hi : IntsAre us ns) (hl : ns.length ≤ sizeLine) (hr : Room k callerA) (D : ∀ base : Heap, K.In base → base.Ns mainGlobals mg → DefOk P w ⟨K, mg⟩ base k fa fd [x] F)
    (hbind : ∀ (s : Shared) (u : Value), BindsTo s fd ⟨[u], []⟩ [(x, u)]) (hF : ∃ h', F [.ros (ns.map Va.int)] [] = .ok (.bl true) h') :
    codeAny (model P w) callerA (.call (.ref fa) ⟨[.ref a], []⟩) (fun r s' => r = .ok (.ret (.bool true)) ∧ OldK s.heap s'.heap ∧ s'.os = s.os ∧ AllBare s'.gens) s := by
  obtain ⟨hf, hF⟩ := hF
  have rl := vals_ints hi
  have ln := hi.length
  suffices all : ∀ H : Hp, Only H → RoL K H a (ns.map V.int) → HOk P w H s.heap → (∀ b u, H b = some u → b = a) → ((∃ u, H a = some u) → K.lookup a = none) → codeAny (model P w) callerA (.call (.ref fa) ⟨[.ref a], []⟩) (fun r s' => r = .ok (.ret (.bool true)) ∧ OldK s.heap s'.heap ∧ s'.os = s.os ∧ AllBare s'.gens) s by
    cases hk : K.lookup a with
    | some o =>
      have e := KX a o hk
      rw [ha] at e
      have e := Option.some.inj e
      subst e
      refine all (fun _ => none) (fun _ => Or.inl rfl) (Or.inr fun H' => Or.inr ⟨_, us.toArray, _, hk, rfl, rfl, rfl, ?_, ?_⟩) (fun b u z => by cases z) (fun b u z => by cases z) fun ⟨u, z⟩ => by cases z
      · rw [List.size_toArray, ln]; exact hl
      · simpa using rl
    | none =>
      let ob : Obj := { cls := .type "list", data := .seq us.toArray }
      let HH : Hp := fun b => if b = a then some (.frz ob (.lst (ns.map V.int))) else none
      have at_a : HH a = some (.frz ob (.lst (ns.map V.int))) := if_pos rfl
      have off : ∀ b, b ≠ a → HH b = none := fun b hb => if_neg hb
      refine all HH (fun b => ?_) (Or.inl ⟨ob, at_a⟩) (fun b u z => ?_) (fun b u z => ?_) fun _ => hk
      · by_cases e : b = a
        · subst e; exact Or.inr ⟨_, _, at_a⟩
        · exact Or.inl (off b e)
      · by_cases e : b = a
        · subst e
          rw [at_a] at z
          cases z
          exact ⟨ha, by rw [List.length_map]; exact hl, us, _, rl, ha⟩
        · rw [off b e] at z; cases z
      · by_cases e : b = a
        · exact e
        · rw [off b e] at z; cases z
  intro H hO hS hok hA hKa
  have keepB : ∀ {b : Addr} {o : Obj}, s.heap.get? b = some o → H b = none → (hidT s.heap H).get? b = some o := fun e n => hidT_get e n
  have dictN : ∀ {b : Addr} {o : Obj} {es : Array DictEntry} {ep : Nat}, s.heap.get? b = some o → o.data = .dict es ep → H b = none := by
    intro b o es ep e d
    cases q : H b with
    | none => rfl
    | some u =>
      have eb := hA b u q
      subst eb
      rw [ha] at e
      cases e
      exact absurd d (by intro z; cases z)
  have nsB : ∀ {b : Addr} {m : Str → Option Value}, s.heap.Ns b m → (hidT s.heap H).Ns b m := by
    rintro b m ⟨o, es, ep, e, d, r⟩
    exact ⟨o, es, ep, keepB e (dictN e d), d, r⟩
  have inB : K.In (hidT s.heap H) := by
    intro b o e
    refine keepB (KX b o e) ?_
    cases q : H b with
    | none => rfl
    | some u =>
      have eb := hA b u q
      subst eb
      rw [hKa ⟨u, q⟩] at e
      cases e
  have md : Mod K mg (hidT s.heap H) := by
    refine ⟨inB, nsB hns, ⟨mb, nsB hb, hbb⟩, ?_⟩
    obtain ⟨mc, z1, z2⟩ := hlim
    exact ⟨mc, nsB z1, z2⟩
  have e0 : Env0 P w K mg (hidT s.heap H) callerA [] s H := ⟨rfl, md, fun b o e => of_hidT e, Nat.le_of_eq (hidT_size _ _), trivial, fun b hb => (by cases hb), hok, .of_eq hg⟩
  have hsp : SpF ⟨K, mg⟩ F [x].length [.ref a] H (fun v _ => v = .bl true) (fun _ _ _ => False) := by
    refine ⟨rfl, [], [], [.ros (ns.map Va.int)], .cons (.ros hS (rpInts ns)) .nil, ⟨rfl, fun i j b z => by simp at z, fun n o b z => by simp at z⟩, ?_⟩
    rw [hF]
    intro ρ' H' v _ _ rv
    cases rv
    rfl
  refine codeAny_mono ((D _ inB (nsB hns)).run callerA [] s H ⟨[.ref a], []⟩ [.ref a] [.ref a] _ _ hr rfl e0 (hbind s (.ref a)) (.cons rfl .nil) hsp) fun r s' q => ?_
  cases r with
  | error e =>
    obtain ⟨_, _, _, _, _, _, _, _, _, _, _, _, z⟩ := q
    exact z.elim
  | ok fl => cases fl with
    | ret u =>
      obtain ⟨v, H', os, bare, un, hok', rv, qv⟩ := q
      have qv : v = .bl true := qv
      subst qv
      have rv : u = Value.bool true := rv
      subst rv
      refine ⟨rfl, OldK.of_keep fun b o e => ?_, os, bare⟩
      cases z : H b with
      | none => exact un.keep b o e z (by intro y; cases y) (by simp)
      | some u =>
        rcases hO b with y | ⟨ob, xs, y⟩
        · rw [z] at y; cases y
        · obtain ⟨e1, _⟩ := hok b _ y
          obtain ⟨e2, _⟩ := hok' b _ (un.frzs b ob _ y)
          rw [e] at e1
          cases e1
          exact e2
    | _ => exact False.elim q
end
/-- the goal that the head leaves, from the law's def -/
theorem law_end {l : PySem.W.OpenLaw} {n k : Nat} {q : Program} {loose : List Str} {XP : (Str → Option Value) → Heap → Prop} {YP : World → Heap → Prop} {d : DefRec} {K : Params → PySem.W.Frag} {x : Str} {F : Fn}
    (hn : l.most = some n) (hn2 : n ≤ sizeLine) (hdf : d.params.defaults = []) (hr : Room k callerA) (hY : ∀ (w : World) (h : Heap), YP w h → (K w.params).In h)
    (D : ∀ (w : World) (mg : Str → Option Value) (fa : Addr) (h : Heap), (K w.params).In h → h.Ns mainGlobals mg → mg d.name = some (.ref fa) →
      ∃ fd : FuncData, (∀ (s : Shared) (u : Value), BindsTo s fd ⟨[u], []⟩ [(x, u)]) ∧ ∀ base : Heap, (K w.params).In base → base.Ns mainGlobals mg → DefOk l.prog w ⟨K w.params, mg⟩ base k fa fd [x] F)
    (hF : ∀ ns : List Int, ns.length ≤ n → ∃ h', F [.ros (ns.map Va.int)] [] = .ok (.bl true) h') : PySem.W.WalkO q loose XP YP l.row.toRowW d [] (fun f vs => PySem.call f vs) := by
  refine Att.attach_call hn hdf fun w s₀ s₁ mg mb fa o pm cd doc a vs ns G Y ho hd hcd hmg hobj hints hlen hg => ?_
  obtain ⟨fd, hb, hD⟩ := D w mg fa _ (hY w _ Y) G.T.g hmg
  exact law_run (hY w _ Y) G.T.g G.T.b G.T.builtins G.T.nolimit hg hobj hints (Nat.le_trans hlen hn2) hr hD hb (hF ns hlen)
end Fw
namespace Fw
open PySem PySem.Spec L2
theorem se_gintE {X : Cx} {W : WX} {x : Str} {i : Int} {pos : Pos} (hg : Gl X x) (h : ∃ t, X.mg x = some (.int i t)) (hd : (x == ("__debug__" : Str)) = false := by decide) : PE X (.Name x pos) (tE (ctOf X) W (sK (.int i))) := by
  obtain ⟨t, h⟩ := h
  exact se_gint hg h hd
end Fw

set_option Elab.async false
set_option linter.all false
set_option maxRecDepth 100000
set_option maxHeartbeats 2000000
set_option autoImplicit false
namespace Fw
open PySem PySem.Spec L2
open PyProof.Rows hiding St
/-! ### a text read backward -/
@[simp] def kRev : Va → Hs → Rs Va
  | .str x => fun h => if x.length ≤ 16777216 then .ok (.str x.reverse) h else .bad
  | .loc n => fun h => match h[n]? with
    | some (.lst xs) => newL xs.reverse h
    | _ => .bad
  | .ros xs => newL xs.reverse
  | _ => fun _ => .bad
theorem rev_pick (z : Str) : (Builtin.Str.strSliceIndices none none (-1) z.length).filterMap (z.cps[·]?) = z.cps.toList.reverse := by
  have e : Builtin.Str.strSliceIndices none none (-1) z.length = sliceRange ((z.length : Int) - 1) (-1) (-1) := by
    unfold Builtin.Str.strSliceIndices
    rfl
  rw [e, PySem.W.krv_sliceRange, PySem.W.krv_range, List.filterMap_reverse]
  congr 1
  exact PySem.W.krv_all z.cps
def tRevS (te : TE) : TE := fun σ H Q => te σ H fun x H1 => ∃ z, x = .str z ∧ z.length ≤ sizeLine ∧ Q (.str ⟨z.cps.toList.reverse.toArray⟩) H1
theorem pe_revS {X : Cx} {e : Expr} {te : TE} {k : Nat} {p1 p2 p3 pos : Pos} (he : PE X e te) : PE X (.Subscript e (.Slice none none (some (.UnaryOp .USub (.Constant (.int 1) k p1) p2)) p3) pos) (tRevS te) := by
  refine ⟨fun pins s σ H Q I h => ?_⟩
  refine Subscript_ (thn (he.run pins s σ H _ I h) fun v s1 ⟨x, H1, I1, r1, q1⟩ => ?_)
  obtain ⟨z, ex, hz, q⟩ := q1
  subst ex
  obtain ⟨t, rfl⟩ := r1
  have hst : PO X (some (.UnaryOp .USub (.Constant (.int 1) k p1) p2)) (tPart (tUn (rU fun i => .int (-i)) (tC (.int 1)))) := po_some (pe_un un_neg pe_int)
  refine wpAny_Slice (thn (po_none.run pins s1 σ H1 (fun o H2 => o = none ∧ H2 = H1) I1 ⟨rfl, rfl⟩) fun vl s2 ⟨l, H2, I2, pl, el, e2⟩ => ?_)
  subst el e2
  refine thn (po_none.run pins s2 σ H2 (fun o H3 => o = none ∧ H3 = H2) I2 ⟨rfl, rfl⟩) fun vu s3 ⟨u, H3, I3, pu, eu, e3⟩ => ?_
  subst eu e3
  refine thn (hst.run pins s3 σ H3 (fun o H4 => o = some (-1) ∧ H4 = H3) I3 ⟨1, rfl, -1, rfl, rfl, rfl⟩) fun vs s4 ⟨o, H4, I4, ps, eo, e4⟩ => ?_
  subst eo e4
  have I5 : Inv X pins σ H4 { s4 with heap := s4.heap.push { cls := .type "slice", data := .fields #[vl, vu, vs] } } := I4.kept (t' := s4.toks) fun b ob q => Heap.get?_push_of_some _ q
  obtain ⟨l1, e1, e2⟩ := IsPart.raw pl
  obtain ⟨u1, f1, f2⟩ := IsPart.raw pu
  obtain ⟨w1, g1, g2⟩ := IsPart.raw ps
  subst e1 f1 g1
  show wpAny (model X.prog X.w) X.A (subscriptTail e (.Slice none none (some (.UnaryOp .USub (.Constant (.int 1) k p1) p2)) p3) (.str z t) (.ref s4.heap.objs.size)) (EP X pins σ Q) X.xe _
  refine tail_any (ops := [.str z t, .ref s4.heap.objs.size]) (typeIs_str _ _ _) (F.slot_str_getitem.lookup) ?_ (by with_unfolding_all rfl)
  refine wpAny_getItem_str_slice (l := l1) (u := u1) (st := w1) ⟨_, Heap.get?_push_size _ rfl, rfl, rfl⟩ (by rw [g2]; rfl) ?_
  unfold sliceMade slicePicked
  rw [e2, f2, g2]
  show Made.post (.str ⟨((Builtin.Str.strSliceIndices none none (-1) z.length).filterMap (z.cps[·]?)).toArray⟩) (EP X pins σ Q) _
  rw [rev_pick]
  refine ⟨?_, .str _, H4, I5.tok _, ⟨_, rfl⟩, q⟩
  simp only [Str.length, List.size_toArray, List.length_reverse, Array.length_toList]
  exact hz
theorem RpL.app {C : Ct} {ρ : List Addr} {H : Hp} : ∀ {xs ys : List Va} {vs us : List V}, RpL C ρ H xs vs → RpL C ρ H ys us → RpL C ρ H (xs ++ ys) (vs ++ us)
  | _, _, _, _, .nil, b => b
  | _, _, _, _, .cons r a, b => .cons r (RpL.app a b)
theorem RpL.rev {C : Ct} {ρ : List Addr} {H : Hp} : ∀ {xs : List Va} {vs : List V}, RpL C ρ H xs vs → RpL C ρ H xs.reverse vs.reverse
  | _, _, .nil => .nil
  | _, _, .cons r a => by
    rw [List.reverse_cons, List.reverse_cons]
    exact RpL.app (RpL.rev a) (.cons r .nil)
theorem pe_or {X : Cx} {e : Expr} {t t' : TE} (h : PE X e t) (h' : PE X e t') : PE X e (fun σ H Q => t σ H Q ∨ t' σ H Q) := ⟨fun pins s σ H Q I q => q.elim (h.run pins s σ H Q I) (h'.run pins s σ H Q I)⟩
theorem se_rev {X : Cx} {W : WX} {e : Expr} {fe : Sx} {k : Nat} {p1 p2 p3 pos : Pos} (he : PE X e (tE (ctOf X) W fe)) : PE X (.Subscript e (.Slice none none (some (.UnaryOp .USub (.Constant (.int 1) k p1) p2)) p3) pos) (tE (ctOf X) W (s1 kRev fe)) :=
  pe_of (pe_or (pe_revS he) (pe_revL he)) fun σ H Q h => by
    obtain ⟨ρ, e, hh, hs, hr, p⟩ := h
    unfold s1 bnd at p
    cases q : fe e hh with
    | ok x h1 =>
      rw [q] at p
      cases x with
      | str z =>
        refine .inl ⟨ρ, e, hh, hs, hr, ?_⟩
        rw [q]
        intro ρ' H' v ex hr' rv
        cases rv
        have p : Po _ _ _ _ ρ' H' (if z.length ≤ 16777216 then _ else _) := Po.mono ex p
        split at p
        · rename_i c
          exact ⟨_, rfl, by rw [line_eq]; simpa [Str.length] using c, by simpa using Po_ok p hr' (.str _)⟩
        · exact p.elim
      | loc n =>
        refine .inr ⟨ρ, e, hh, hs, hr, ?_⟩
        rw [q]
        intro ρ' H' v ex hr' rv
        have p : Po _ _ _ _ ρ' H' (match h1[n]? with | some (.lst xs) => newL xs.reverse h1 | _ => .bad) := Po.mono ex p
        split at p
        · rename_i xs hn
          obtain ⟨a, vs, rfl, ha, hl, rl⟩ := hr'.ls_ hn rv
          exact ⟨a, vs, rfl, SqL.of hl, (newL_of hr' (RpL.rev rl) p).2⟩
        · exact p.elim
      | ros xs =>
        refine .inr ⟨ρ, e, hh, hs, hr, ?_⟩
        rw [q]
        intro ρ' H' v ex hr' rv
        have p : Po _ _ _ _ ρ' H' (newL xs.reverse h1) := Po.mono ex p
        cases rv with
        | ros hq rl => exact ⟨_, _, rfl, hq.sq, (newL_of hr' (RpL.rev rl) p).2⟩
      | _ => exact p.elim
    | ex x h1 =>
      rw [q] at p
      refine .inl ⟨ρ, e, hh, hs, hr, ?_⟩
      rw [q]
      exact p
    | bad => rw [q] at p; exact p.elim
end Fw

set_option Elab.async false
set_option linter.all false
set_option maxRecDepth 100000
set_option maxHeartbeats 2000000
set_option autoImplicit false
namespace Fw
open PySem PySem.Spec L2
open PyProof.Rows hiding St
/-! ### enumerate over a text -/
def Iten (x : Str) : It :=
  ⟨fun i _ => i < x.cps.size, fun i H v H' => ∃ T c, v = .ref T ∧ H T = none ∧ H' = upd H T (.tup [.int (i : Nat), .str ⟨#[c]⟩]) ∧ x.cps[i]? = some c, fun i _ => x.cps.size ≤ i⟩
theorem turn_enumS {P : Program} {w : World} {K : PySem.W.Frag} {elts : List Expr} {kk : Nat} {tpos : Pos} (x : Str) (t : Tok) (e it : Addr) :
    Turn P w K (.Tuple elts kk tpos) (Iten x) [e, it] e (fun i h => (∃ old, IsEnum h e it ((i : Nat) : Int) old) ∧ h.IsStrIter it (strIterType x) x t i ∧ e ≠ it) where
  mem := by simp
  obj := fun i h st b hb => by
    obtain ⟨⟨old, he⟩, ⟨o, ho, hc, hd⟩, _⟩ := st
    have e' : b = e ∨ b = it := by simpa using hb
    rcases e' with z | z
    · rw [z]; exact ⟨_, he, fun v q => nomatch q⟩
    · rw [z]; exact ⟨o, ho, fun v q => by rw [hd] at q; cases q⟩
  keep := fun i h h' st k => let ⟨⟨old, he⟩, ⟨o, ho, r⟩, hne⟩ := st; ⟨⟨old, k e (by simp) _ he⟩, ⟨o, k it (by simp) o ho, r⟩, hne⟩
  item := by
    intro X hP hw hK hc i pins s σ H E I hf st hg
    subst hP hw hK
    obtain ⟨⟨old, he⟩, hit, hne⟩ := st
    have hel : e < s.heap.objs.size := Heap.lt_size he
    have hil : it < s.heap.objs.size := by obtain ⟨_, q, _⟩ := hit; exact Heap.lt_size q
    have D := Draws.text (prog := X.prog) (w := X.w) (A := X.A.in1) (I.ok.hd hc) it x t
    refine wpAny_pyNext_enum_itemD D he hit hg hne (by simpa using hne) fun u h' tk hP ho hit' hT hsz hk => ?_
    obtain ⟨c, tu, hcx, rfl⟩ := hP
    refine ⟨_, rfl, wpAny_letOwnedTupleGo_enum (s := { s with heap := h', toks := tk + 1 }) ho fun h'' he' sb => ?_⟩
    have hT2 : h''.get? s.heap.objs.size = some { cls := .type "tuple", data := .seq #[.int i tk, .str ⟨#[c]⟩ tu] } := (sb.2 _ (Nat.ne_of_gt hel)).trans hT
    have new : ObjOk X.prog X.w (upd H s.heap.objs.size (.tup [.int (i : Nat), .str ⟨#[c]⟩])) h'' s.heap.objs.size (.tup [.int (i : Nat), .str ⟨#[c]⟩]) :=
      ⟨by show 2 ≤ sizeLine; decide, [.int i tk, .str ⟨#[c]⟩ tu], .cons ⟨_, rfl⟩ (.cons ⟨_, rfl⟩ .nil), ⟨_, hT2, rfl, _, rfl⟩⟩
    have I1 : Inv X pins σ (upd H s.heap.objs.size (.tup [.int (i : Nat), .str ⟨#[c]⟩])) { s with heap := h'', toks := tk + 1 } :=
      I.turnedNew (ch := [e, it]) (fun b ob hb q => (sb.2 b (fun z => hb (by simp [z]))).trans (hk b ob (fun z => hb (by simp [z])) (fun z => hb (by simp [z])) q)) hf (Nat.le_refl _) new
    refine ⟨.ref s.heap.objs.size, _, I1, rfl, ⟨_, c, rfl, I.hok.fresh (Nat.le_refl _), rfl, hcx⟩, ⟨⟨.str ⟨#[c]⟩ tu, ?_⟩, ?_, hne⟩, fun b hb => ?_⟩
    · have e1 : ((i + 1 : Nat) : Int) = (i : Int) + 1 := by omega
      rw [e1]; exact he'
    · obtain ⟨o, q1, q2⟩ := hit'
      exact ⟨o, (sb.2 it (Ne.symm hne)).trans q1, q2⟩
    · have hb' : b < s.heap.objs.size := by
        have e' : b = e ∨ b = it := by simpa using hb
        rcases e' with z | z
        · rw [z]; exact hel
        · rw [z]; exact hil
      rw [upd_ne (Nat.ne_of_lt hb')]
      exact (hf b hb).1
  done := by
    intro X hP hw hK hc i pins s σ H E I hf st hg
    subst hP hw hK
    obtain ⟨⟨old, he⟩, hit, hne⟩ := st
    obtain ⟨f0, f1, f2, f3, f4, f5⟩ := hf it (by simp)
    have hx : x.cps[i]? = none := Array.getElem?_eq_none hg
    have D : Draws X.prog X.w X.A.in1 it [it] 0 (fun _ _ => False) (fun _ h => h.IsStrIter it (strIterType x) x t i) :=
      ⟨fun _ _ st => let ⟨o, ho, _⟩ := st; ⟨o, ho⟩, fun _ _ _ st hk => let ⟨o, ho, r⟩ := st; ⟨o, hk it (by simp) o ho, r⟩, fun j s Q E hj => absurd hj (Nat.not_lt_zero _), fun s Q E st hE => by
        cases ha : x.cps.all (· < 128)
        · simp only [strIterType, ha, Bool.false_eq_true, if_false] at st
          exact wpAny_nextOf_wide_end (I.ok.hd hc) st hx hE
        · simp only [strIterType, ha, if_true] at st
          exact wpAny_nextOf_ascii_end (I.ok.hd hc) st hx hE⟩
    exact wpAny_pyNext_enum_endD D he hit fun h' eb => ⟨rfl, I.turned (t' := s.toks) (fun b o hb q => eb b o hb q) f0 f1 f3 f4 f5⟩
  self := fun A i s Q E st h => let ⟨⟨_, he⟩, _⟩ := st; wpAny_pyIter_enum he h
def iEnumS (ta : TA) : TI := fun σ H R => ta σ H fun vs H1 => ∃ x, vs = [.str x] ∧ R (Iten x) H1
theorem pi_enumS {X : Cx} {e : Expr} {ta : TA} {p pos tpos : Pos} {elts : List Expr} {kk : Nat} (hg : Gl X "enumerate") (hm : X.mg "enumerate" = none) (ha : PA X [e] ta) (hs : starEach [e] X.env = [(false, eval e X.env)] := by rfl) :
    PI X (.Tuple elts kk tpos) (.Call (.Name "enumerate" p) [e] [] pos) (iEnumS ta) := by
  refine ⟨fun pins s σ H R I h => ?_⟩
  refine Call_ (ld_blt I hg hm boot_enumerate (PyProof.Rows.callWith_type1 (thn (ha.run pos pins s σ H _ I h) fun us s1 ⟨vs, H1, I1, r1, q1⟩ => ?_) hs rfl))
  obtain ⟨x, ex, q⟩ := q1
  subst ex
  cases r1 with
  | cons r rr =>
    cases rr
    obtain ⟨t, rfl⟩ := r
    refine call_enumerate_str fun h' he hit hsz hk => wpAny_pyIter_enum he ?_
    have I2 : Inv X pins σ H1 { s1 with heap := h' } := I1.kept (t' := s1.toks) hk
    refine ⟨s1.heap.objs.size + 1, [s1.heap.objs.size + 1, s1.heap.objs.size], _, _, H1, rfl, I2, turn_enumS x t (s1.heap.objs.size + 1) s1.heap.objs.size, ⟨⟨.none, he⟩, hit, Nat.succ_ne_self _⟩, fun b hb => ?_, q⟩
    have e' : b = s1.heap.objs.size + 1 ∨ b = s1.heap.objs.size := by simpa using hb
    have hle : s1.heap.objs.size ≤ b := by
      rcases e' with z | z
      · rw [z]; exact Nat.le_add_right _ _
      · rw [z]; exact Nat.le_refl _
    exact I1.fpOk hle (I1.hok.fresh hle)
def enT (x : Va) (h : Hs) : Option (Src × Nat) := match x with
  | .str s => some (srcEV (s.map fun c => .str [c]), s.length)
  | x => enV x h
def sEnuT (f : Sm (List Va)) : Sit := bnd f fun xs _ h => match xs with
  | [x] => match enT x h with
    | some s => .ok s h
    | none => .bad
  | _ => .bad
theorem srcEn_of {C : Ct} {ρ : List Addr} {H : Hp} (s : List Nat) : SrcR C ρ H (srcEV (s.map fun c => .str [c])) (Iten ⟨s.toArray⟩) := by
  refine ⟨fun ρ1 H1 h1 i ex hr e => ?_, fun ρ1 H1 h1 i y ex hr e => ?_⟩
  · unfold srcEV at e
    cases q : s[i]? with
    | none => show (⟨s.toArray⟩ : Str).cps.size ≤ i; simpa using List.getElem?_eq_none_iff.mp q
    | some c => rw [List.getElem?_map, q] at e; cases e
  · unfold srcEV at e
    cases q : s[i]? with
    | none => rw [List.getElem?_map, q] at e; cases e
    | some c =>
      rw [List.getElem?_map, q] at e
      cases e
      have hl := (List.getElem?_eq_some_iff.mp q).1
      refine ⟨by show i < (⟨s.toArray⟩ : Str).cps.size; simpa using hl, fun w H2 ⟨T, c', e1, e2, e3, e4⟩ => ?_⟩
      have : c' = c := by simpa [q] using e4.symm
      subst this e1 e3
      have en := ext_new (C := C) (ρ := ρ1) (o := .tup [.int (i : Nat), .str ⟨#[c']⟩]) e2
      exact ⟨en, hr.tup_ e2, .tup (SqT.of upd_same) (.cons (.int _) (.cons (.str [c']) .nil))⟩
theorem si_enumT {X : Cx} {W : WX} {a : Expr} {fa : Sm (List Va)} {p pos : Pos} {elts : List Expr} {kk : Nat} {tpos : Pos} (hg : Gl X "enumerate") (hm : X.mg "enumerate" = none) (ha : PA X [a] (tAr (ctOf X) W fa)) (hs : starEach [a] X.env = [(false, eval a X.env)] := by rfl) : PI X (.Tuple elts kk tpos) (.Call (.Name "enumerate" p) [a] [] pos) (tIt (ctOf X) W (sEnuT fa)) :=
  pi_of (pi_or (pi_enumS hg hm ha hs) (si_enum hg hm ha hs)) fun σ H Q h => by
    obtain ⟨ρ, e, hh, hs', hr, p⟩ := h
    unfold sEnuT bnd at p
    cases q : fa e hh with
    | ok xs h1 =>
      rw [q] at p
      match xs, q, p with
      | [], q, p => exact p.elim
      | [.str s], q, p =>
        refine .inl ⟨ρ, e, hh, hs', hr, ?_⟩
        rw [q]
        intro ρ' H' v ex hr' rv
        cases rv with
        | cons r1 r2 =>
          cases r2
          cases r1
          exact ⟨_, rfl, (Po.mono ex p) ρ' H' _ .refl hr' (srcEn_of s)⟩
      | [.non], q, p => exact .inr ⟨ρ, e, hh, hs', hr, by unfold sEnu bnd; rw [q]; exact p⟩
      | [.bl _], q, p => exact .inr ⟨ρ, e, hh, hs', hr, by unfold sEnu bnd; rw [q]; exact p⟩
      | [.int _], q, p => exact .inr ⟨ρ, e, hh, hs', hr, by unfold sEnu bnd; rw [q]; exact p⟩
      | [.tup _], q, p => exact .inr ⟨ρ, e, hh, hs', hr, by unfold sEnu bnd; rw [q]; exact p⟩
      | [.ros _], q, p => exact .inr ⟨ρ, e, hh, hs', hr, by unfold sEnu bnd; rw [q]; exact p⟩
      | [.loc _], q, p => exact .inr ⟨ρ, e, hh, hs', hr, by unfold sEnu bnd; rw [q]; exact p⟩
      | [.fn _], q, p => exact .inr ⟨ρ, e, hh, hs', hr, by unfold sEnu bnd; rw [q]; exact p⟩
      | [.ty _], q, p => exact .inr ⟨ρ, e, hh, hs', hr, by unfold sEnu bnd; rw [q]; exact p⟩
      | [.rg _ _ _], q, p => exact .inr ⟨ρ, e, hh, hs', hr, by unfold sEnu bnd; rw [q]; exact p⟩
      | _ :: _ :: _, q, p => exact p.elim
    | ex x h1 =>
      rw [q] at p
      refine .inl ⟨ρ, e, hh, hs', hr, ?_⟩
      rw [q]
      exact p
    | bad => rw [q] at p; exact p.elim
end Fw

set_option Elab.async false
set_option linter.all false
set_option maxRecDepth 100000
set_option maxHeartbeats 2000000
set_option autoImplicit false
namespace Fw
open PySem PySem.Spec L2
open PyProof.Rows hiding St
/-! ### dicts whose keys are ints and texts -/
/-- a new dict -/
theorem HR.allocD {C : Ct} {ρ : List Addr} {h : Hs} {H : Hp} (x : HR C ρ h H) {p : Addr} (hp : H p = none) {xs : List (Va × Va)} {vs : List (Key × V)} (r : RpK C ρ H xs vs) :
    Ext C ρ H (ρ ++ [p]) (upd H p (.dK vs)) ∧ HR C (ρ ++ [p]) (h ++ [.dct xs]) (upd H p (.dK vs)) ∧ Rp C (ρ ++ [p]) (upd H p (.dK vs)) (.loc h.length) (.ref p) := by
  have e : Ext C ρ H (ρ ++ [p]) (upd H p (.dK vs)) := ext_alloc hp
  have np : ∀ i a, ρ[i]? = some a → a ≠ p := fun i a hi => by
    obtain ⟨o, ho⟩ := x.sm_ hi
    exact ne_of_none ho hp
  refine ⟨e, ⟨by simp [x.len], fun i j a hi hj => ?_, fun n o a hn ha => ?_⟩, .loc (by rw [← x.len]; simp)⟩
  · by_cases h1 : i < ρ.length <;> by_cases h2 : j < ρ.length
    · rw [List.getElem?_append_left h1] at hi
      rw [List.getElem?_append_left h2] at hj
      exact x.nd i j a hi hj
    · rw [List.getElem?_append_left h1] at hi
      rcases e.new j a hj with q | q
      · exact x.nd i j a hi q
      · obtain ⟨o, ho⟩ := x.sm_ hi
        rw [q] at ho; cases ho
    · rw [List.getElem?_append_left h2] at hj
      rcases e.new i a hi with q | q
      · exact x.nd i j a q hj
      · obtain ⟨o, ho⟩ := x.sm_ hj
        rw [q] at ho; cases ho
    · have l1 := (List.getElem?_eq_some_iff.mp hi).1
      have l2 := (List.getElem?_eq_some_iff.mp hj).1
      simp at l1 l2
      omega
  · by_cases h1 : n < ρ.length
    · rw [List.getElem?_append_left h1] at ha
      rw [List.getElem?_append_left (by rw [← x.len]; exact h1)] at hn
      have q := x.ob n o a hn ha
      revert q
      cases o with
      | lst ys =>
        rintro ⟨ws, e1, e2⟩
        exact ⟨ws, by rw [upd_ne (np n a ha)]; exact e1, e2.mono e⟩
      | dct k =>
        rintro ⟨ws, e1, e2⟩
        exact ⟨ws, by rw [upd_ne (np n a ha)]; exact e1, e2.mono e⟩
    · have l1 := (List.getElem?_eq_some_iff.mp ha).1
      have hl := x.len
      simp at l1
      have en : n = ρ.length := by omega
      subst en
      rw [hl] at hn
      simp at hn ha
      subst hn ha
      exact ⟨vs, upd_same, r.mono e⟩
/-- a dict written -/
theorem HR.writeD {C : Ct} {ρ : List Addr} {h : Hs} {H : Hp} (x : HR C ρ h H) {n : Nat} {a : Addr} {xs xs' : List (Va × Va)} {vs vs' : List (Key × V)} (hn : h[n]? = some (.dct xs)) (ha : ρ[n]? = some a) (hl : H a = some (.dK vs)) (r : RpK C ρ H xs' vs') :
    Ext C ρ H ρ (upd H a (.dK vs')) ∧ HR C ρ (h.set n (.dct xs')) (upd H a (.dK vs')) := by
  have nt : ∀ b o, H b = some o → (∀ ws, o ≠ .dK ws) → b ≠ a := fun b o hb ho e => by
    subst e
    rw [hl] at hb
    exact ho vs (Option.some.inj hb).symm
  have e : Ext C ρ H ρ (upd H a (.dK vs')) := by
    refine ⟨fun _ _ q => q, fun b ws q => ?_, fun b o u q => ?_, fun _ _ q => .inl q, fun b o q hno => ?_, fun b o q => ?_⟩
    · rcases q with (q | ⟨ob, q⟩) | q
      · exact .inl (.inl (by rw [upd_ne (nt b _ q fun ws z => by cases z)]; exact q))
      · exact .inl (.inr ⟨ob, by rw [upd_ne (nt b _ q fun ws z => by cases z)]; exact q⟩)
      · exact .inr q
    · rw [upd_ne (nt b _ q fun ws z => by cases z)]; exact q
    · rw [upd_ne (fun z => hno n (by rw [z]; exact ha))]; exact q
    · by_cases hb : b = a
      · exact ⟨_, by rw [hb]; exact upd_same⟩
      · exact ⟨o, by rw [upd_ne hb]; exact q⟩
  refine ⟨e, by simp [x.len], x.nd, fun m o b hm hb => ?_⟩
  by_cases hmn : n = m
  · subst hmn
    have l := (List.getElem?_eq_some_iff.mp hn).1
    rw [List.getElem?_set_self l] at hm
    rw [ha] at hb
    cases hm; cases hb
    exact ⟨vs', upd_same, r.mono e⟩
  · rw [List.getElem?_set_ne hmn] at hm
    have q := x.ob m o b hm hb
    have hba : b ≠ a := fun z => hmn (x.nd n m a ha (by rw [← z]; exact hb))
    revert q
    cases o with
    | lst ys =>
      rintro ⟨ws, e1, e2⟩
      exact ⟨ws, by rw [upd_ne hba]; exact e1, e2.mono e⟩
    | dct k =>
      rintro ⟨ws, e1, e2⟩
      exact ⟨ws, by rw [upd_ne hba]; exact e1, e2.mono e⟩

/-- an own dict -/
theorem HR.dc_ {C : Ct} {ρ : List Addr} {h : Hs} {H : Hp} (x : HR C ρ h H) {n : Nat} {xs : List (Va × Va)} {v : V} (e : h[n]? = some (.dct xs)) (r : Rp C ρ H (.loc n) v) : ∃ a vs, v = .ref a ∧ ρ[n]? = some a ∧ H a = some (.dK vs) ∧ RpK C ρ H xs vs := by
  cases r with
  | loc q =>
    obtain ⟨vs, e1, e2⟩ := x.ob n _ _ e q
    exact ⟨_, vs, rfl, q, e1, e2⟩
theorem keyA_rp {C : Ct} {ρ : List Addr} {H : Hp} {y : Va} {v : V} {k : Key} (e : keyA y = some k) (r : Rp C ρ H y v) : v = kV k := by
  cases r <;> first
    | (cases e; rfl)
    | (simp [keyA] at e; done)
def dGet : List (Va × Va) → Key → Option Va
  | [], _ => none
  | (a, x) :: r, k => if keyA a = some k then some x else dGet r k
def dPut (xs : List (Va × Va)) (k : Key) (y x : Va) : List (Va × Va) :=
  if (xs.any fun p => decide (keyA p.1 = some k)) = true then xs.map (fun p => if keyA p.1 = some k then (p.1, x) else p) else xs ++ [(y, x)]
theorem dGet_rp {C : Ct} {ρ : List Addr} {H : Hp} {k : Key} : ∀ {xs : List (Va × Va)} {vs : List (Key × V)}, RpK C ρ H xs vs → (∀ x, dGet xs k = some x → ∃ v, valV vs k = some v ∧ Rp C ρ H x v) ∧ (dGet xs k = none → valV vs k = none)
  | _, _, .nil => ⟨fun x e => (nomatch e), fun _ => rfl⟩
  | _, _, .cons (k' := k') e r rs => by
    obtain ⟨a, b⟩ := dGet_rp (k := k) rs
    by_cases c : k' = k
    · subst c
      refine ⟨fun x q => ?_, fun q => ?_⟩
      · rw [dGet, if_pos e] at q
        cases q
        exact ⟨_, valV_pos rfl, r⟩
      · rw [dGet, if_pos e] at q; cases q
    · have ne : ¬ keyA _ = some k := fun z => c (Option.some.inj (e.symm.trans z))
      refine ⟨fun x q => ?_, fun q => ?_⟩
      · rw [dGet, if_neg ne] at q
        rw [valV_neg c]
        exact a x q
      · rw [dGet, if_neg ne] at q
        rw [valV_neg c]
        exact b q
theorem RpK.any_ {C : Ct} {ρ : List Addr} {H : Hp} {k : Key} : ∀ {xs : List (Va × Va)} {vs : List (Key × V)}, RpK C ρ H xs vs → (xs.any fun p => decide (keyA p.1 = some k)) = (vs.any fun kv => decide (kv.1 = k))
  | _, _, .nil => rfl
  | _, _, .cons (k' := k') e r rs => by
    rw [List.any_cons, List.any_cons, RpK.any_ rs]
    congr 1
    simp [e]
theorem RpK.app_ {C : Ct} {ρ : List Addr} {H : Hp} {y x : Va} {k : Key} {v : V} (ey : keyA y = some k) (rx : Rp C ρ H x v) : ∀ {xs : List (Va × Va)} {vs : List (Key × V)}, RpK C ρ H xs vs → RpK C ρ H (xs ++ [(y, x)]) (vs ++ [(k, v)])
  | _, _, .nil => .cons ey rx .nil
  | _, _, .cons e r rs => .cons e r (RpK.app_ ey rx rs)
theorem RpK.put_ {C : Ct} {ρ : List Addr} {H : Hp} {x : Va} {k : Key} {v : V} (rx : Rp C ρ H x v) : ∀ {xs : List (Va × Va)} {vs : List (Key × V)}, RpK C ρ H xs vs → RpK C ρ H (xs.map fun p => if keyA p.1 = some k then (p.1, x) else p) (vs.map fun kv => if kv.1 = k then (kv.1, v) else kv)
  | _, _, .nil => .nil
  | _, _, .cons (k' := k') e r rs => by
    rw [List.map_cons, List.map_cons]
    by_cases c : k' = k
    · subst c
      rw [if_pos e, if_pos rfl]
      exact .cons e rx (RpK.put_ rx rs)
    · rw [if_neg (fun z => c (Option.some.inj (e.symm.trans z))), if_neg c]
      exact .cons e r (RpK.put_ rx rs)
theorem dPut_rp {C : Ct} {ρ : List Addr} {H : Hp} {y x : Va} {k : Key} {v : V} {xs : List (Va × Va)} {vs : List (Key × V)} (r : RpK C ρ H xs vs) (ey : keyA y = some k) (rx : Rp C ρ H x v) : RpK C ρ H (dPut xs k y x) (putK vs k v) := by
  unfold dPut putK
  rw [r.any_]
  split
  · exact r.put_ rx
  · exact r.app_ ey rx
theorem RpK.length {C : Ct} {ρ : List Addr} {H : Hp} : ∀ {xs : List (Va × Va)} {vs : List (Key × V)}, RpK C ρ H xs vs → xs.length = vs.length
  | _, _, .nil => rfl
  | _, _, .cons e r rs => by simp [RpK.length rs]
/-! ### a new dict, an item read, an item stored -/
def sDn : Sx := fun _ h => .ok (.loc h.length) (h ++ [.dct []])
theorem se_dnew {X : Cx} {W : WX} {pos : Pos} : PE X (.Dict [] [] pos) (tE (ctOf X) W sDn) := pe_of pe_dnewK fun σ H Q ⟨ρ, e, h, hs, hr, p⟩ q hq => by
  obtain ⟨e1, e2, e3⟩ := hr.allocD (vs := []) hq .nil
  exact p _ _ _ e1 e2 e3
def rIxD : R2 := fun x y H Q => ∃ a v, x = .ref a ∧ DGet H a y (some v) ∧ Q v H
theorem ix_dict {X : Cx} (hu : X.A.units + 64 < cLine) : IxR X rIxD := by
  intro value slice pins s σ H x y v u Q I rx ry h hs
  obtain ⟨a, w, rfl, g, q⟩ := h
  obtain rfl : v = Value.ref a := rx
  have hu1 : X.A.units + 1 < cLine := by omega
  exact tail_any (ops := [.ref a, u]) (dict_typeIs I g) (PySem.F.slot_dict_getitem.lookup) (d_getItem hu1 I g ry fun w' s3 I3 rw' => ⟨w, H, I3, rw', q⟩) hs
@[simp] def kIxD (x y : Va) (h : Hs) : Rs Va := match x with
  | .loc n => match h[n]? with
    | some (.dct kvs) => match (keyA y).bind (dGet kvs) with
      | some v => .ok v h
      | none => .bad
    | _ => kIx x y h
  | _ => kIx x y h
theorem vIxD {X : Cx} : VOp (ctOf X) (fun x y H Q => rIx X.K x y H Q ∨ rIxD x y H Q) kIxD := by
  intro ρ H h x y v u W Q hr rx ry p
  have old : Po (ctOf X) (Rp (ctOf X)) W Q ρ H (kIx x y h) → rIx X.K v u H Q ∨ rIxD v u H Q := fun p => Or.inl (vIx ρ H h x y v u W Q hr rx ry p)
  unfold kIxD at p
  split at p
  · rename_i n
    split at p
    · rename_i kvs hn
      split at p
      · rename_i w hw
        obtain ⟨a, vs, rfl, ha, hd, rk⟩ := hr.dc_ hn rx
        cases hk : keyA y with
        | none => rw [hk] at hw; cases hw
        | some k =>
          rw [hk] at hw
          obtain ⟨v', g1, g2⟩ := (dGet_rp (k := k) rk).1 w hw
          refine .inr ⟨a, v', rfl, ?_, Po_ok p hr g2⟩
          rw [keyA_rp hk ry, ← g1]
          exact DGet.k hd
      · exact p.elim
    · exact old p
  · exact old p
theorem se_ixD {X : Cx} {W : WX} {a b : Expr} {fa fb : Sx} {pos : Pos} (hu : X.A.units + 64 < cLine) (ha : PE X a (tE (ctOf X) W fa)) (hb : PE X b (tE (ctOf X) W fb)) (hs : PlainIx b := by exact fun _ _ => rfl) : PE X (.Subscript a b pos) (tE (ctOf X) W (s2 kIxD fa fb)) := pe_of (pe_ix (IxR.or ix_seq (ix_dict hu)) ha hb hs) (t2_of vIxD)
def kSetD (o i x : Va) (h : Hs) : Option Hs := match o with
  | .loc n => match h[n]? with
    | some (.dct kvs) => match keyA i with
      | some k => if kvs.length < 16777216 then some (h.set n (.dct (dPut kvs k i x))) else none
      | none => none
    | _ => kSet o i x h
  | _ => kSet o i x h
def tSetD : TSet := fun o i v H Q => ∃ a H', o = .ref a ∧ DPut H a i v H' ∧ Q H'
theorem pset_dict {X : Cx} (hu : X.A.units + 64 < cLine) : PSet X tSetD := by
  intro pins s σ H o i v ov iv u Q I ro ri rv h
  obtain ⟨a, H', rfl, g, q⟩ := h
  obtain rfl : ov = Value.ref a := ro
  exact d_setItem (by omega) I g ri rv fun s' I' => ⟨H', I', q⟩
theorem PSet.or {X : Cx} {t t' : TSet} (a : PSet X t) (b : PSet X t') : PSet X (fun o i v H Q => t o i v H Q ∨ t' o i v H Q) := by
  intro pins s σ H o i v ov iv u Q I ro ri rv h
  rcases h with h | h
  · exact a pins s σ H o i v ov iv u Q I ro ri rv h
  · exact b pins s σ H o i v ov iv u Q I ro ri rv h
theorem kSetD_of {C : Ct} {ρ : List Addr} {H : Hp} {h h' : Hs} {o i x : Va} {vo vi vx : V} (hr : HR C ρ h H) (ro : Rp C ρ H o vo) (ri : Rp C ρ H i vi) (rx : Rp C ρ H x vx) (e : kSetD o i x h = some h') {Q : Hp → Prop} (hQ : ∀ H', Ext C ρ H ρ H' → HR C ρ h' H' → Q H') : rSetL vo vi vx H Q ∨ tSetD vo vi vx H Q := by
  unfold kSetD at e
  split at e
  · rename_i n
    split at e
    · rename_i kvs hn
      split at e
      · rename_i k hk
        split at e
        · rename_i c
          cases e
          obtain ⟨a, vs, rfl, ha, hd, rk⟩ := hr.dc_ hn ro
          obtain ⟨e1, e2⟩ := hr.writeD hn ha hd (dPut_rp rk hk rx)
          refine .inr ⟨a, _, rfl, ?_, hQ _ e1 e2⟩
          rw [keyA_rp hk ri]
          exact DPut.k hd (by rw [← rk.length, line_eq]; exact c)
        · cases e
      · cases e
    · exact .inl (kSet_of hr ro ri rx e hQ)
  · exact .inl (kSet_of hr ro ri rx e hQ)
def gSbD (fo fi : Sx) : Tg := fun x e h => match bnd fo (fun o => bnd fi fun i => fun _ h => match kSetD o i x h with
  | some h' => Rs.ok () h'
  | none => .bad) e h with
  | .ok _ h' => .ok e h'
  | _ => .bad
def fwdO {α β : Type} (r : Rs α) (k : α → Hs → Rs β) : Rs β := match r with
  | .ok x h' => k x h'
  | .ex x h' => .ex x h'
  | .bad => .bad
theorem gSbD_ap (fo fi : Sx) (x : Va) (e : En) (h : Hs) : gSbD fo fi x e h = match fwdO (fo e h) (fun o h1 => fwdO (fi e h1) fun i h2 => match kSetD o i x h2 with | some h3 => Rs.ok () h3 | none => .bad) with | .ok _ h' => .ok e h' | _ => .bad := (rfl)
theorem sg_subD {X : Cx} {pos : Pos} {o i : Expr} {fo fi : Sx} (hu : X.A.units + 64 < cLine) (ho : PE X o (tE (ctOf X) (fun _ _ _ _ => False) fo)) (hi : PE X i (tE (ctOf X) (fun _ _ _ _ => False) fi)) (ha : ∀ v, assign (.Subscript o i pos) X.env v = (do let ov ← holding [v] (eval o X.env); let iv ← holding [v, ov] (eval i X.env); standAt pos; holding [v, ov, iv] (setItem ov iv v); release [v, ov, iv] []) := by intro _; rfl) : PG X (.Subscript o i pos) (tTg (ctOf X) (gSbD fo fi)) := pg_of (pg_sub ho hi (PSet.or set_list (pset_dict hu)) ha) fun v σ H Q ⟨ρ, e, h, x, hs, hr, rv, p⟩ => by
  unfold gSbD at p
  generalize hq : bnd fo (fun o => bnd fi fun i => fun _ h => match kSetD o i x h with | some h' => Rs.ok () h' | none => .bad) e h = r at p
  have p2 : Po (ctOf X) (fun _ _ (_ : Unit) (_ : Unit) => True) (fun _ _ _ => False) (fun _ H' => Q σ H') ρ H r := by
    cases r with
    | ok _ h' => exact fun ρ' H' _ ex hr' _ => p ρ' H' σ ex hr' (hs.mono ex)
    | ex _ _ => exact p.elim
    | bad => exact p.elim
  rw [← hq] at p2
  refine Po_bnd (W := fun _ _ _ _ => False) (k := fun o => bnd fi fun i => fun _ h => match kSetD o i x h with | some h' => Rs.ok () h' | none => .bad) hs hr p2 fun ρ1 H1 h1 o vo e1 hs1 hr1 ro p3 => Po_bnd (W := fun _ _ _ _ => False) (k := fun i => fun _ h => match kSetD o i x h with | some h' => Rs.ok () h' | none => .bad) hs1 hr1 p3 fun ρ2 H2 h2 i vi e2 hs2 hr2 ri p4 => ?_
  cases q : kSetD o i x h2 with
  | none => rw [q] at p4; exact p4.elim
  | some h' =>
    rw [q] at p4
    exact kSetD_of hr2 (ro.mono e2) ri (rv.mono (e1.trans e2)) q fun H' ex hr' => p4 ρ2 H' () ex hr' trivial
end Fw

set_option Elab.async false
set_option linter.all false
set_option maxRecDepth 100000
set_option maxHeartbeats 2000000
set_option autoImplicit false
namespace Fw
open PySem PySem.Spec L2
open PyProof.Rows hiding St
/-! ### sorted, a list of pairs of ints -/
def leP (a b : Int × Int) : Prop := a.1 < b.1 ∨ (a.1 = b.1 ∧ a.2 ≤ b.2)
instance (a b : Int × Int) : Decidable (leP a b) := by unfold leP; infer_instance
def insP (x : Int × Int) : List (Int × Int) → List (Int × Int)
  | [] => [x]
  | y :: ys => if leP x y then x :: y :: ys else y :: insP x ys
def srtP : List (Int × Int) → List (Int × Int)
  | [] => []
  | x :: xs => insP x (srtP xs)
theorem insP_perm (x : Int × Int) : ∀ ys, (insP x ys).Perm (x :: ys)
  | [] => .refl _
  | y :: ys => by
    unfold insP
    split
    · exact .refl _
    · exact ((insP_perm x ys).cons y).trans (.swap x y ys)
theorem srtP_perm : ∀ xs, (srtP xs).Perm xs
  | [] => .refl _
  | x :: xs => (insP_perm x _).trans ((srtP_perm xs).cons x)
theorem leP_trans {a b c : Int × Int} (h : leP a b) (h2 : leP b c) : leP a c := by unfold leP at *; omega
theorem insP_sorted (x : Int × Int) : ∀ ys : List (Int × Int), ys.Pairwise leP → (insP x ys).Pairwise leP
  | [], _ => .cons (by simp) .nil
  | y :: ys, h => by
    unfold insP
    split
    · rename_i c
      refine .cons (fun z hz => ?_) h
      rcases List.mem_cons.mp hz with rfl | hz
      · exact c
      · exact leP_trans c ((List.pairwise_cons.mp h).1 z hz)
    · rename_i c
      refine .cons (fun z hz => ?_) (insP_sorted x ys (List.pairwise_cons.mp h).2)
      have hz' := (insP_perm x ys).mem_iff.mp hz
      rcases List.mem_cons.mp hz' with rfl | hz'
      · unfold leP at *; omega
      · exact (List.pairwise_cons.mp h).1 z hz'
theorem srtP_sorted : ∀ xs : List (Int × Int), (srtP xs).Pairwise leP
  | [] => .nil
  | x :: xs => insP_sorted x _ (srtP_sorted xs)
theorem sortedP_one {a b : List (Int × Int)} (p : a.Perm b) (ha : a.Pairwise leP) (hb : b.Pairwise leP) : a = b := p.eq_of_pairwise (fun x y _ _ h1 h2 => by
  unfold leP at *
  exact Prod.ext (by omega) (by omega)) ha hb
/-- these values are these pairs -/
inductive Prs (K : PySem.W.Frag) (H : Hp) : List V → List (Int × Int) → Prop
  | nil : Prs K H [] []
  | cons {t : Addr} {i j : Int} {xs : List V} {ps : List (Int × Int)} : SqT K H t [.int i, .int j] → Prs K H xs ps → Prs K H (.ref t :: xs) ((i, j) :: ps)
theorem Prs.mem {K : PySem.W.Frag} {H : Hp} : ∀ {xs : List V} {ps : List (Int × Int)}, Prs K H xs ps → ∀ x ∈ xs, ∃ t i j, x = V.ref t ∧ SqT K H t [.int i, .int j]
  | _, _, .nil, x, m => by simp at m
  | _, _, .cons h r, x, m => by
    rcases List.mem_cons.mp m with rfl | m
    · exact ⟨_, _, _, rfl, h⟩
    · exact Prs.mem r x m
theorem Prs.key {K : PySem.W.Frag} {H : Hp} {k : V → Int × Int} (hk : ∀ t i j, SqT K H t [.int i, .int j] → k (.ref t) = (i, j)) : ∀ {xs : List V} {ps : List (Int × Int)}, Prs K H xs ps → ps = xs.map k
  | _, _, .nil => rfl
  | _, _, .cons h r => by rw [List.map_cons, hk _ _ _ h, ← Prs.key hk r]
theorem Prs.of_key {K : PySem.W.Frag} {H : Hp} {k : V → Int × Int} (hk : ∀ t i j, SqT K H t [.int i, .int j] → k (.ref t) = (i, j)) : ∀ {xs : List V}, (∀ x ∈ xs, ∃ t i j, x = V.ref t ∧ SqT K H t [.int i, .int j]) → Prs K H xs (xs.map k)
  | [], _ => .nil
  | x :: xs, h => by
    obtain ⟨t, i, j, rfl, q⟩ := h x List.mem_cons_self
    rw [List.map_cons, hk t i j q]
    exact .cons q (Prs.of_key hk fun y m => h y (List.mem_cons_of_mem _ m))
def rSortedPT (K : PySem.W.Frag) : List V → Hp → VK → Prop := fun vs H Q => ∃ (a : Addr) (xs : List V) (ps : List (Int × Int)), vs = [V.ref a] ∧ SqL K H a xs ∧ Prs K H xs ps ∧
  ∀ ys p, Prs K H ys (srtP ps) → ys.length = xs.length → H p = none → Q (.ref p) (upd H p (.lst ys))
theorem cr_sortedPT {X : Cx} : CallR X (.builtin "sorted") (rSortedPT X.K) := by
  intro pins s σ H vs us Q I r h
  obtain ⟨a, xs, ps, rfl, hs, hx, q⟩ := h
  obtain ⟨its, rv, hl, hz⟩ := I.list hs
  obtain ⟨u, rfl, ru⟩ := vals1 r
  obtain rfl : u = Value.ref a := ru
  have hm := hx.mem
  let k : V → Int × Int := fun x => Classical.epsilon fun ij => ∃ t, x = V.ref t ∧ SqT X.K H t [.int ij.1, .int ij.2]
  have hk : ∀ t i j, SqT X.K H t [.int i, .int j] → k (.ref t) = (i, j) := fun t i j h => by
    have e : ∃ t', V.ref t = V.ref t' ∧ SqT X.K H t' [.int (k (.ref t)).1, .int (k (.ref t)).2] := Classical.epsilon_spec (p := fun ij : Int × Int => ∃ t', V.ref t = V.ref t' ∧ SqT X.K H t' [.int ij.1, .int ij.2]) ⟨(i, j), t, rfl, h⟩
    obtain ⟨t', e1, e2⟩ := e
    cases e1
    have := I.tuple_inj e2 h
    simp at this
    exact Prod.ext this.1 this.2
  obtain ⟨e1, e2⟩ := refs_back rv fun x m => by
    obtain ⟨t, i, j, e, _⟩ := hm x m
    exact ⟨t, e⟩
  refine SrtO.sorted_pairsO (k := fun u => k (backV u)) hl.isList (by rw [← rv.length]; exact hz) (fun v hv => ?_) fun h' d out h1 h2 kp hd hn => ?_
  · obtain ⟨t, rfl⟩ := e2 v hv
    have hmm : V.ref t ∈ xs := by rw [e1]; exact List.mem_map.mpr ⟨_, hv, rfl⟩
    obtain ⟨t', i, j, e, ht⟩ := hm _ hmm
    cases e
    obtain ⟨its2, r2, ⟨o, ho, hc, n, hd⟩, _⟩ := I.tuple ht
    obtain ⟨u1, u2, rfl, ri, rj⟩ := vals2 r2
    obtain ⟨t1, rfl⟩ := ri
    obtain ⟨t2, rfl⟩ := rj
    have kk : k (backV (Value.ref t)) = (i, j) := hk t i j ht
    refine ⟨t, o, t1, t2, n, rfl, ho, hc, ?_⟩
    rw [kk]
    exact hd
  · have h3 : ∀ u ∈ out, ∃ a, u = Value.ref a := fun u hu => e2 u (h2.perm.mem_iff.mp hu)
    obtain ⟨n, hn⟩ := hn
    have hb : SrtO.Stb (ltP k) (out.map backV) xs := by
      rw [e1]
      exact SrtO.Stb.map (ltP_swo k) backV h2
    have so := SrtO.srtd_map h1
    have hy : ∀ x ∈ out.map backV, ∃ t i j, x = V.ref t ∧ SqT X.K H t [.int i, .int j] := fun x m => hm x (hb.perm.mem_iff.mp m)
    have pk := Prs.of_key hk hy
    have ek : (out.map backV).map k = srtP ps := by
      refine sortedP_one ?_ ?_ (srtP_sorted ps)
      · rw [hx.key hk]
        exact (hb.perm.map k).trans (srtP_perm _).symm
      · refine List.pairwise_map.mpr (List.pairwise_map.mpr ?_)
        refine List.Pairwise.imp (R := fun x y => SrtO.lexB (k (backV y)) (k (backV x)) = false) (fun {x y} h => ?_) h1
        have := SrtO.lexB_no.mp h
        show leP (k (backV x)) (k (backV y))
        unfold leP
        omega
    rw [ek] at pk
    refine ⟨.ref d, upd H d (.lst (out.map backV)), I.laid (t' := s.toks) kp hd ⟨?_, out, n, vals_back h3, hn⟩, rfl, q _ d pk hb.len (I.hok.fresh hd)⟩
    rw [hb.len]
    exact hz
def pairA : Va → Option (Int × Int)
  | .tup [.int i, .int j] => some (i, j)
  | _ => none
def pairV (p : Int × Int) : Va := .tup [.int p.1, .int p.2]
theorem pairA_of {x : Va} {p : Int × Int} (e : pairA x = some p) : x = pairV p := by
  unfold pairA at e
  split at e
  · cases e; rfl
  · cases e
theorem prs_of {C : Ct} {ρ : List Addr} {H : Hp} : ∀ {xs : List Va} {vs : List V} {ps : List (Int × Int)}, RpL C ρ H xs vs → mapO pairA xs = some ps → Prs C.K H vs ps
  | _, _, _, .nil, e => by cases e; exact .nil
  | _, _, _, .cons (x := x) (xs := xs) r rs, e => by
    unfold mapO at e
    split at e
    · rename_i y ys h1 h2
      cases e
      have := pairA_of h1
      subst this
      cases r with
      | tup hq rl =>
        cases rl with
        | cons r1 r2 => cases r2 with
          | cons r3 r4 =>
            cases r4; cases r1; cases r3
            exact .cons hq (prs_of rs h2)
    · cases e
theorem rp_prs {C : Ct} {ρ : List Addr} {H : Hp} : ∀ {vs : List V} {ps : List (Int × Int)}, Prs C.K H vs ps → RpL C ρ H (ps.map pairV) vs
  | _, _, .nil => .nil
  | _, _, .cons h r => .cons (.tup h (.cons (.int _) (.cons (.int _) .nil))) (rp_prs r)
def kSrtP : List Va → Hs → Rs Va := fun xs h => match xs with
  | [x] => match (lsA x h).bind (mapO pairA) with
    | some ps => newL ((srtP ps).map pairV) h
    | none => .bad
  | _ => .bad
theorem cs_srtP {X : Cx} : CaK X (.builtin "sorted") kSrtP := ⟨_, cr_sortedPT, by
  intro ρ H h xs vs W Q hr r p
  unfold kSrtP at p
  split at p
  · rename_i x
    obtain ⟨v, rfl, rv⟩ := one_arg r rfl
    cases e : lsA x h with
    | none => rw [e] at p; exact p.elim
    | some ys =>
      obtain ⟨a, us, rfl, hq, rl⟩ := lsA_of hr rv e
      rw [e] at p
      cases e2 : mapO pairA ys with
      | none => simp only [Option.bind_some, e2] at p; exact p.elim
      | some ps =>
        simp only [Option.bind_some, e2] at p
        exact ⟨a, us, ps, rfl, hq, prs_of rl e2, fun zs q pz _ hq' => (newL_of hr (rp_prs pz) p).2 q hq'⟩
  · exact p.elim⟩
end Fw

set_option Elab.async false
set_option linter.all false
set_option maxRecDepth 100000
set_option maxHeartbeats 2000000
set_option autoImplicit false
namespace Fw
open PySem PySem.Spec L2
open PyProof.Rows hiding St
/-! ### x in s -/
def flA : Va → Bool
  | .non => true
  | .bl _ => true
  | .int _ => true
  | .str _ => true
  | _ => false
def eqA : Va → Va → Bool
  | .non, .non => true
  | .bl a, .bl b => a == b
  | .bl a, .int b => (if a then 1 else 0) == b
  | .int a, .bl b => a == (if b then 1 else 0)
  | .int a, .int b => a == b
  | .str a, .str b => decide (a = b)
  | _, _ => false
def inA (x : Va) (xs : List Va) : Bool := xs.any fun y => eqA y x
def inS (x z : List Nat) : Bool := match x with
  | [c] => decide (c ∈ z)
  | x => !(Builtin.Str.occurrences ⟨z.toArray⟩ ⟨x.toArray⟩ 0 (⟨z.toArray⟩ : Str).length 1).isEmpty
def ngB (neg b : Bool) : Bool := if neg then !b else b
def kInQ (neg : Bool) (x : Va) (xs : List Va) (h : Hs) : Rs Va := if flA x = true ∧ xs.all flA = true then .ok (.bl (ngB neg (inA x xs))) h else .bad
def kInD (neg : Bool) (x y : Va) (h : Hs) : Rs Va := match rdV h 24 x, rdV h 24 y with
  | some d, some (.list ds) => if SeqAt.shaped d = true ∧ SeqAt.shaped (.list ds) = true then .ok (.bl (ngB neg (ds.any fun z => PyData.eqv z d))) h else .bad
  | _, _ => .bad
def kIn (neg : Bool) : Va → Va → Hs → Rs Va
  | .str x, .str z => fun h => .ok (.bl (ngB neg (inS x z))) h
  | x, .tup xs => kInQ neg x xs
  | x, .ros xs => kInQ neg x xs
  | x, .loc n => fun h => match h[n]? with
    | some (.lst xs) => if flA x = true ∧ xs.all flA = true then kInQ neg x xs h else kInD neg x (.loc n) h
    | _ => .bad
  | _, _ => fun _ => .bad
section
variable {C : Ct} {ρ : List Addr} {H : Hp}
theorem flA_V {x : Va} {v : V} (r : Rp C ρ H x v) (f : flA x = true) : flatV v = true := by cases r <;> first | rfl | cases f
theorem flA_all : ∀ {xs : List Va} {vs : List V}, RpL C ρ H xs vs → xs.all flA = true → vs.all flatV = true
  | _, _, .nil, _ => rfl
  | _, _, .cons r rs, f => by
    rw [List.all_cons, Bool.and_eq_true] at f ⊢
    exact ⟨flA_V r f.1, flA_all rs f.2⟩
theorem strEqV (a b : List Nat) : ((⟨a.toArray⟩ : Str) == ⟨b.toArray⟩) = decide (a = b) := by
  by_cases e : a = b
  · subst e; simp
  · rw [decide_eq_false e]
    rw [beq_eq_false_iff_ne]
    intro q
    injection q with q
    exact e (by simpa using congrArg Array.toList q)
theorem eqA_V {x y : Va} {v u : V} (rx : Rp C ρ H x v) (ry : Rp C ρ H y u) (fx : flA x = true) (fy : flA y = true) : eqV v u = eqA x y := by
  cases rx <;> cases ry <;> first
    | rfl
    | exact strEqV _ _
    | cases fx
    | cases fy
theorem inA_V {x : Va} {v : V} (rx : Rp C ρ H x v) (fx : flA x = true) : ∀ {xs : List Va} {vs : List V}, RpL C ρ H xs vs → xs.all flA = true → inV v vs = inA x xs
  | _, _, .nil, _ => rfl
  | _, _, .cons r rs, f => by
    rw [List.all_cons, Bool.and_eq_true] at f
    have ih := inA_V rx fx rs f.2
    unfold inV at ih ⊢
    unfold inA at ih ⊢
    rw [List.any_cons, List.any_cons, eqA_V r rx f.1 fx, ih]
end
theorem units5 {k : Nat} {A : Around} (r : Room k A) : A.units + 65 < cLine := by have := r.un; omega
section
variable {X : Cx}
def rInAll (K : PySem.W.Frag) (neg : Bool) : R2 := fun x y H Q =>
  (∃ (c : Nat) (z : Str), x = .str ⟨#[c]⟩ ∧ y = .str z ∧ Q (.bl (ngB neg (decide (c ∈ z.cps.toList)))) H) ∨
  (∃ i j, x = .str i ∧ y = .str j ∧ Q (.bl (ngB neg (!(Builtin.Str.occurrences j i 0 j.length 1).isEmpty))) H) ∨ rIn K neg x y H Q ∨
  (∃ d ds, Dp K H x d ∧ Dp K H y (.list ds) ∧ SeqAt.shaped d = true ∧ SeqAt.shaped (.list ds) = true ∧ Q (.bl (ngB neg (ds.any fun z => PyData.eqv z d))) H)
theorem vIn {neg : Bool} : VOp (ctOf X) (rInAll X.K neg) (kIn neg) := by
  intro ρ H h x y v u W Q hr rx ry p
  have qq : ∀ {xs : List Va} {vs : List V} {q : Addr}, (SqL X.K H q vs ∨ SqT X.K H q vs) → RpL (ctOf X) ρ H xs vs → u = .ref q → Po (ctOf X) (Rp (ctOf X)) W Q ρ H (kInQ neg x xs h) → rInAll X.K neg v u H Q := by
    intro xs vs q hq rl hu p
    unfold kInQ at p
    split at p
    · rename_i c
      refine .inr (.inr (.inl ⟨q, vs, hu, hq, flA_V rx c.1, flA_all rl c.2, ?_⟩))
      rw [inA_V rx c.1 rl c.2]
      exact Po_ok p hr (.bl _)
    · exact p.elim
  cases ry with
  | str z =>
    cases rx with
    | str s =>
      have p : Po (ctOf X) (Rp (ctOf X)) W Q ρ H (.ok (.bl (ngB neg (inS s z))) h) := p
      have gen : inS s z = !(Builtin.Str.occurrences ⟨z.toArray⟩ ⟨s.toArray⟩ 0 (⟨z.toArray⟩ : Str).length 1).isEmpty → rInAll X.K neg (.str ⟨s.toArray⟩) (.str ⟨z.toArray⟩) H Q := fun e => by
        refine .inr (.inl ⟨_, _, rfl, rfl, ?_⟩)
        rw [← e]
        exact Po_ok p hr (.bl _)
      match s with
      | [c] => exact .inl ⟨c, _, rfl, rfl, Po_ok p hr (.bl _)⟩
      | [] => exact gen rfl
      | _ :: _ :: _ => exact gen rfl
    | _ => exact p.elim
  | tup hq rl => cases x <;> exact qq (.inr hq) rl rfl p
  | ros hq rl => cases x <;> exact qq (.inl hq.sq) rl rfl p
  | loc hq =>
    rename_i m a
    have p : Po (ctOf X) (Rp (ctOf X)) W Q ρ H (match h[m]? with
      | some (.lst xs) => if flA x = true ∧ xs.all flA = true then kInQ neg x xs h else kInD neg x (.loc m) h
      | _ => .bad) := by cases x <;> exact p
    split at p
    · rename_i xs hm
      obtain ⟨a', vs, e1, e2, e3, e4⟩ := hr.ls_ hm (.loc hq)
      cases e1
      split at p
      · exact qq (.inl (SqL.of e3)) e4 rfl p
      · unfold kInD at p
        split at p
        · rename_i d ds hd he
          split at p
          · rename_i c
            exact .inr (.inr (.inr ⟨d, ds, rdV_dp hr 24 x v d rx hd, rdV_dp hr 24 (.loc m) _ (.list ds) (.loc hq) he, c.1, c.2, Po_ok p hr (.bl _)⟩))
          · exact p.elim
        · exact p.elim
    · exact p.elim
  | non => cases x <;> exact p.elim
  | bl b => cases x <;> exact p.elim
  | int i => cases x <;> exact p.elim
  | fn q => cases x <;> exact p.elim
  | ty n => cases x <;> exact p.elim
  | rg _ => cases x <;> exact p.elim
theorem ks_in (hu : X.A.units + 64 < cLine) (hu' : X.A.units + 65 < cLine) : OpK X (compareOp .In) (kIn false) := ⟨_, OpR.or op_in_sign (OpR.or op_in_str (OpR.or op_in_seq (op_inD hu'))), vIn (neg := false)⟩
theorem ks_nin (hu : X.A.units + 64 < cLine) (hu' : X.A.units + 65 < cLine) : OpK X (compareOp .NotIn) (kIn true) := ⟨_, OpR.or op_notIn_sign (OpR.or op_notIn_str (OpR.or op_notIn_seq (op_notInD hu'))), vIn (neg := true)⟩
end
end Fw

set_option Elab.async false
set_option linter.all false
set_option maxRecDepth 100000
set_option maxHeartbeats 2000000
set_option autoImplicit false
namespace Fw
open PySem PySem.Spec L2
open PyProof.Rows hiding St
/-! ### texts and tuples said several times -/
def kMulT : Va → Va → Hs → Rs Va
  | .str x, .int j => fun h => if 0 ≤ j ∧ j ≤ 1000000 ∧ x.length * j.toNat ≤ 16777216 then .ok (.str (List.replicate j.toNat x).flatten) h else .bad
  | .tup xs, .int j => fun h => if xs ≠ [] ∧ 2 ≤ j ∧ j ≤ 1000 ∧ xs.length ≤ 1000 then .ok (.tup (List.replicate j.toNat xs).flatten) h else .bad
  | _, _ => fun _ => .bad
def kMulS : Va → Va → Hs → Rs Va
  | .str x, y => kMulT (.str x) y
  | .tup xs, y => kMulT (.tup xs) y
  | x, y => kMul x y
theorem OpK.pick {X : Cx} {op : Value → Value → Sem Value} {k1 k2 k : Va → Va → Hs → Rs Va} (a : OpK X op k1) (b : OpK X op k2) (e : ∀ x y h, k x y h = k1 x y h ∨ k x y h = k2 x y h) : OpK X op k := by
  obtain ⟨r1, o1, v1⟩ := a
  obtain ⟨r2, o2, v2⟩ := b
  refine ⟨_, OpR.or o1 o2, fun ρ H h x y v u W Q hr rx ry p => ?_⟩
  rcases e x y h with e | e
  · rw [e] at p; exact .inl (v1 ρ H h x y v u W Q hr rx ry p)
  · rw [e] at p; exact .inr (v2 ρ H h x y v u W Q hr rx ry p)
theorem mul_txt (x : List Nat) (n : Nat) : Txt.mul ⟨x.toArray⟩ (n : Int) = ⟨(List.replicate n x).flatten.toArray⟩ := by
  unfold Txt.mul
  by_cases h1 : (n : Int) < 1
  · have : n = 0 := by omega
    subst this
    rw [if_pos h1]; rfl
  · rw [if_neg h1]
    have fo : ∀ (n : Nat) (a : Array Nat), (List.replicate n x.toArray).foldl (· ++ ·) a = a ++ (List.replicate n x).flatten.toArray := by
      intro n
      induction n with
      | zero => intro a; simp
      | succ n ih =>
        intro a
        rw [List.replicate_succ, List.foldl_cons, ih, List.replicate_succ, List.flatten_cons]
        simp
    by_cases h2 : ((n : Int) == 1 || (⟨x.toArray⟩ : Str).length == 0) = true
    · rw [if_pos h2]
      rw [Bool.or_eq_true] at h2
      rcases h2 with h2 | h2
      · have : n = 1 := by have := eq_of_beq h2; omega
        subst this
        simp
      · rw [str_len] at h2
        have h2 := eq_of_beq h2
        have : x = [] := List.length_eq_zero_iff.mp h2
        subst this
        simp
    · rw [if_neg h2, Int.toNat_natCast]
      show (⟨(List.replicate n x.toArray).foldl (· ++ ·) #[]⟩ : Str) = _
      rw [fo]
      simp
def rMulT : R2 := fun x y H Q => ∃ (a : List Nat) (n : Nat), x = .str ⟨a.toArray⟩ ∧ y = .int (n : Nat) ∧ n ≤ 1000000 ∧ a.length * n ≤ 16777216 ∧ Q (.str ⟨(List.replicate n a).flatten.toArray⟩) H
theorem op_mulT {X : Cx} : OpR X (binaryOp .Mult) rMulT := by
  intro pins s σ H x y v u Q I rx ry h
  obtain ⟨a, n, rfl, rfl, hn, hz, q⟩ := h
  obtain ⟨t, rfl⟩ := rx
  obtain ⟨t', rfl⟩ := ry
  have p63 : (2 : Int) ^ 63 = 9223372036854775808 := by decide
  refine PySem.SB.mul ⟨?_, fun h1 _ => ?_, fun _ _ => ?_⟩ fun t' k => ⟨.str (Txt.mul ⟨a.toArray⟩ n), H, I.tok _, ⟨_, rfl⟩, by rw [mul_txt]; exact q⟩
  · rw [p63, decide_eq_false (by omega), decide_eq_false (by omega)]; rfl
  · rw [p63, str_len]
    have hn0 : (0 : Int) < n := by omega
    have hz' : ((a.length * n : Nat) : Int) ≤ ((16777216 : Nat) : Int) := Int.ofNat_le.mpr hz
    rw [Int.natCast_mul] at hz'
    have h3 : (a.length : Int) ≤ (9223372036854775808 - 1) / n := by
      rw [Int.le_ediv_iff_mul_le hn0]
      exact Int.le_trans hz' (by decide)
    omega
  · unfold Builtin.Str.tooLong
    rw [str_len, Int.toNat_natCast, line_eq]
    exact decide_eq_false (by omega)
theorem ks_mulT {X : Cx} : OpK X (binaryOp .Mult) kMulT := ⟨_, OpR.or op_mulT op_repT, by
  intro ρ H h x y v u W Q hr rx ry p
  cases x <;> cases y <;> first
    | exact False.elim p
    | (rename_i x j
       cases rx; cases ry
       have p : Po _ _ _ _ _ _ (if 0 ≤ j ∧ j ≤ 1000000 ∧ x.length * j.toNat ≤ 16777216 then _ else _) := p
       split at p
       · rename_i c
         refine .inl ⟨x, j.toNat, rfl, by rw [Int.toNat_of_nonneg c.1], by omega, c.2.2, Po_ok p hr (.str _)⟩
       · exact p.elim)
    | (rename_i xs j
       cases ry
       have p : Po _ _ _ _ _ _ (if xs ≠ [] ∧ 2 ≤ j ∧ j ≤ 1000 ∧ xs.length ≤ 1000 then _ else _) := p
       split at p
       · rename_i c
         cases rx with
         | tup hq rl =>
         have e := rl.length
         have rr : ∀ m : Nat, RpL (ctOf X) ρ H (List.replicate m xs).flatten (List.replicate m _).flatten := fun m => by
           induction m with
           | zero => exact .nil
           | succ m ih => rw [List.replicate_succ, List.replicate_succ, List.flatten_cons, List.flatten_cons]; exact rl.append ih
         refine .inr ⟨_, j, _, rfl, rfl, hq, ?_, c.2.1, c.2.2.1, by rw [← e]; exact c.2.2.2, ?_⟩
         · rintro rfl
           cases rl
           exact c.1 rfl
         · exact Po_tup hr (rr _) p
       · exact p.elim)⟩
theorem ks_mulS {X : Cx} : OpK X (binaryOp .Mult) kMulS := OpK.pick ks_mulT ks_mul fun x y h => by cases x <;> first | exact .inl rfl | exact .inr rfl
/-! ### shifts -/
def kShl : Va → Va → Hs → Rs Va
  | .int i, .int j => fun h => if 0 ≤ j ∧ j ≤ 100000 ∧ i.natAbs < 2 ^ 1000 then .ok (.int (i * 2 ^ j.toNat)) h else .bad
  | _, _ => fun _ => .bad
def kShr : Va → Va → Hs → Rs Va
  | .int i, .int j => fun h => if 0 ≤ j then .ok (.int (i / 2 ^ j.toNat)) h else .bad
  | _, _ => fun _ => .bad
theorem ks_shl {X : Cx} : OpK X (binaryOp .LShift) kShl := ⟨_, op_shlW, by
  intro ρ H h x y v u W Q hr rx ry p
  cases x <;> cases y <;> first
    | exact False.elim p
    | (rename_i i j
       cases rx; cases ry
       have p : Po _ _ _ _ _ _ (if 0 ≤ j ∧ j ≤ 100000 ∧ i.natAbs < 2 ^ 1000 then _ else _) := p
       split at p
       · rename_i c
         have sk := shl_ok (i := i) (j := j.toNat) (n := 1000) c.2.2 (by omega)
         rw [Int.toNat_of_nonneg c.1] at sk
         exact ⟨i, j, rfl, rfl, sk, Po_ok p hr (.int _)⟩
       · exact p.elim)⟩
theorem ks_shr {X : Cx} : OpK X (binaryOp .RShift) kShr := ⟨_, op_shr, by
  intro ρ H h x y v u W Q hr rx ry p
  cases x <;> cases y <;> first
    | exact False.elim p
    | (rename_i i j
       cases rx; cases ry
       have p : Po _ _ _ _ _ _ (if 0 ≤ j then _ else _) := p
       split at p
       · rename_i c
         exact ⟨i, j, rfl, rfl, c, Po_ok p hr (.int _)⟩
       · exact p.elim)⟩
end Fw

set_option Elab.async false
set_option linter.all false
set_option maxRecDepth 100000
set_option maxHeartbeats 2000000
set_option autoImplicit false
namespace Fw
open PySem PySem.Spec L2
open PyProof.Rows hiding St
/-! ### tuples of constants among the module's names -/
/-- a tuple of texts and ints -/
def cVa : List Va → List V
  | [] => []
  | .int i :: r => .int i :: cVa r
  | .str x :: r => .str ⟨x.toArray⟩ :: cVa r
  | _ :: r => cVa r
theorem se_gtupE {X : Cx} {W : WX} {x : Str} {xs : List Va} {vs : List V} {pos : Pos} (hg : Gl X x) (h : ∃ a, X.mg x = some (.ref a) ∧ ∀ H, SqT X.K H a vs) (r : ∀ C ρ H, RpL C ρ H xs vs) (hd : (x == ("__debug__" : Str)) = false := by decide) : PE X (.Name x pos) (tE (ctOf X) W (sK (.tup xs))) := by
  obtain ⟨a, hm, hs⟩ := h
  exact pe_of (pe_glob (v := .ref a) hg hm rfl (hd := hd)) fun σ H Q h => by
    obtain ⟨ρ, e, h1, hs1, hr, p⟩ := h
    exact Po_ok p hr (.tup (hs H) (r _ ρ H))
theorem rp_strs {C : Ct} {ρ : List Addr} {H : Hp} : ∀ xs : List (List Nat), RpL C ρ H (xs.map Va.str) (xs.map fun x => V.str ⟨x.toArray⟩)
  | [] => .nil
  | x :: xs => .cons (.str x) (rp_strs xs)
theorem sqT_known {K : PySem.W.Frag} {H : Hp} {a : Addr} {xs : List V} {od : Option Addr} {its : Array Value} {n : Nat} {sl : Array (Option Value)} (h : K.lookup a = some ⟨.type "tuple", od, .seq its n, sl⟩) (l : its.size ≤ sizeLine) (v : Vals xs its.toList) : SqT K H a xs := .inr ⟨_, its, n, h, rfl, rfl, l, v⟩
/-! ### x in d -/
def kInDc (neg : Bool) : Va → Va → Hs → Rs Va
  | x, .loc n => fun h => match h[n]? with
    | some (.dct kvs) => match keyA x with
      | some k => .ok (.bl (ngB neg (dGet kvs k).isSome)) h
      | none => .bad
    | _ => .bad
  | _, _ => fun _ => .bad
def kInX (neg : Bool) (x y : Va) (h : Hs) : Rs Va := match y with
  | .loc n => match h[n]? with
    | some (.dct _) => kInDc neg x (.loc n) h
    | _ => kIn neg x (.loc n) h
  | y => kIn neg x y h
section
variable {X : Cx}
def rInDc (neg : Bool) : R2 := fun x y H Q => ∃ a o, y = .ref a ∧ DGet H a x o ∧ Q (.bl (ngB neg o.isSome)) H
theorem op_inDc (hu : X.A.units + 64 < cLine) : OpR X (compareOp .In) (rInDc false) := by
  intro pins s σ H x y v u Q I rx ry h
  obtain ⟨a, o, rfl, g, q⟩ := h
  obtain rfl : u = Value.ref a := ry
  exact d_in (by omega) I g rx fun s' I' => ⟨.bl _, H, I', rfl, q⟩
theorem op_ninDc (hu : X.A.units + 64 < cLine) : OpR X (compareOp .NotIn) (rInDc true) := by
  intro pins s σ H x y v u Q I rx ry h
  obtain ⟨a, o, rfl, g, q⟩ := h
  obtain rfl : u = Value.ref a := ry
  exact d_notIn (by omega) I g rx fun s' I' => ⟨.bl _, H, I', rfl, q⟩
theorem vInDc {neg : Bool} : VOp (ctOf X) (rInDc neg) (kInDc neg) := by
  intro ρ H h x y v u W Q hr rx ry p
  cases ry with
  | loc hq =>
    rename_i m a
    have p : Po (ctOf X) (Rp (ctOf X)) W Q ρ H (match h[m]? with
      | some (.dct kvs) => match keyA x with
        | some k => .ok (.bl (ngB neg (dGet kvs k).isSome)) h
        | none => .bad
      | _ => .bad) := p
    split at p
    · rename_i kvs hm
      split at p
      · rename_i k hk
        obtain ⟨a', vs, e1, ha, hd, rk⟩ := hr.dc_ hm (.loc hq)
        cases e1
        refine ⟨a, valV vs k, rfl, ?_, ?_⟩
        · rw [keyA_rp hk rx]
          exact DGet.k hd
        · have e : (valV vs k).isSome = (dGet kvs k).isSome := by
            obtain ⟨g1, g2⟩ := dGet_rp (k := k) rk
            cases q : dGet kvs k with
            | none => rw [g2 q]; rfl
            | some z =>
              obtain ⟨w, hw, _⟩ := g1 z q
              rw [hw]; rfl
          rw [e]
          exact Po_ok p hr (.bl _)
      · exact p.elim
    · exact p.elim
  | non => exact p.elim
  | bl b => exact p.elim
  | int i => exact p.elim
  | str z => exact p.elim
  | tup _ _ => exact p.elim
  | ros _ _ => exact p.elim
  | fn _ => exact p.elim
  | ty _ => exact p.elim
  | rg _ => exact p.elim
theorem kInX_or (neg : Bool) (x y : Va) (h : Hs) : kInX neg x y h = kInDc neg x y h ∨ kInX neg x y h = kIn neg x y h := by
  cases y <;> first
    | exact .inr rfl
    | (rename_i n
       unfold kInX
       simp only []
       split
       · exact .inl rfl
       · exact .inr rfl)
theorem ks_inX (hu : X.A.units + 64 < cLine) (hu' : X.A.units + 65 < cLine) : OpK X (compareOp .In) (kInX false) := OpK.pick ⟨_, op_inDc hu, vInDc (neg := false)⟩ (ks_in hu hu') (kInX_or false)
theorem ks_ninX (hu : X.A.units + 64 < cLine) (hu' : X.A.units + 65 < cLine) : OpK X (compareOp .NotIn) (kInX true) := OpK.pick ⟨_, op_ninDc hu, vInDc (neg := true)⟩ (ks_nin hu hu') (kInX_or true)
end
/-! ### gcd -/
def kGcd : List Va → Hs → Rs Va
  | [.int a, .int b] => fun h => .ok (.int (Nat.gcd a.natAbs b.natAbs : Nat)) h
  | _ => fun _ => .bad
theorem cs_gcd {X : Cx} : CaK X (.builtin "math.gcd") kGcd := ⟨_, cr_gcd, by
  intro ρ H h xs vs W Q hr r p
  unfold kGcd at p
  split at p
  · cases r with
    | cons r1 r2 =>
      cases r2 with
      | cons r2 r3 =>
        cases r3
        cases r1
        cases r2
        exact ⟨_, _, rfl, Po_ok p hr (.int _)⟩
  · exact p.elim⟩
end Fw

set_option Elab.async false
set_option linter.all false
set_option maxRecDepth 100000
set_option maxHeartbeats 2000000
set_option autoImplicit false
namespace Fw
open PySem PySem.Spec L2
open PyProof.Rows hiding St
/-! ### // by a divisor of either sign below 2 ^ 9000 -/
def CDivZ (_ j : Int) : Prop := j ≠ 0 ∧ j.natAbs.log2 < 9000
def kFdz : Va → Va → Hs → Rs Va
  | .int i, .int j => fun h => if j ≠ 0 ∧ j.natAbs.log2 < 9000 then .ok (.int (i.fdiv j)) h else .bad
  | _, _ => fun _ => .bad
section
variable {X : Cx}
theorem op_fdivZ : OpR X (binaryOp .FloorDiv) (rI CDivZ fun i j => .int (i.fdiv j)) := opI fun _ _ _ _ _ _ _ hc q => floordiv_int hc.1 q (.inl (PyProof.noPylong_of_log2 hc.2))
theorem ks_fdz : OpK X (binaryOp .FloorDiv) kFdz := ⟨_, op_fdivZ, vI (g' := fun i j => .int (i.fdiv j)) (fun _ _ _ _ => .int _) fun x y h => by
  cases x <;> cases y <;> first
    | exact .inr rfl
    | (rename_i i j
       by_cases c : j ≠ 0 ∧ j.natAbs.log2 < 9000
       · exact .inl ⟨i, j, rfl, rfl, c, if_pos c⟩
       · exact .inr (if_neg c))⟩
end
end Fw

set_option Elab.async false
set_option linter.all false
set_option maxRecDepth 100000
set_option maxHeartbeats 2000000
set_option autoImplicit false
namespace Fw
open PySem PySem.Spec L2
open PyProof.Rows hiding St
/-! ### a op b op' c op'' d -/
def sCh3 (k k' k'' : Va → Va → Hs → Rs Va) (a b c d : Sx) : Sx := bnd a fun x => bnd b fun y => bnd (vl (k x y)) fun z => byB (asB z) (bnd c fun w => bnd (vl (k' y w)) fun z2 => byB (asB z2) (bnd d fun u => vl (k'' w u)) (sK (.bl false))) (sK (.bl false))
def tChain3 (r r' r'' : R2) (ta tb tc td : TE) : TE := fun σ H Q => ta σ H fun x H1 => tb σ H1 fun y H2 => r x y H2 fun z H3 => ∃ k, z = .bl k ∧
  (if k = true then tc σ H3 fun w H4 => r' y w H4 fun z2 H5 => ∃ k2, z2 = .bl k2 ∧ (if k2 = true then td σ H5 fun u H6 => r'' w u H6 Q else Q (.bl false) H5) else Q (.bl false) H3)
section
variable {X : Cx} {W : WX} {a b c d : Expr} {fa fb fc fd : Sx} {ta tb tc td : TE} {pos : Pos}
theorem pe_chain3 {op op' op'' : CmpOp} {r r' r'' : R2} (ho : OpR X (compareOp op) r) (ho' : OpR X (compareOp op') r') (ho'' : OpR X (compareOp op'') r'') (ha : PE X a ta) (hb : PE X b tb) (hc : PE X c tc) (hd : PE X d td)
    (hm : lastMarks [op, op', op''] [b, c, d] = false := by with_unfolding_all rfl) : PE X (.Compare a [op, op', op''] [b, c, d] pos) (tChain3 r r' r'' ta tb tc td) := by
  refine ⟨fun pins s σ H Q I h => ?_⟩
  refine Compare_chain (thn (ha.run pins s σ H _ I h) fun v s1 ⟨x, H1, I1, r1, q1⟩ => chain_link (thn (hb.run pins s1 σ H1 _ I1 q1) fun u s2 ⟨y, H2, I2, r2, q2⟩ =>
    thn (ho pins s2 σ H2 x y v u _ I2 r1 r2 q2) fun e s3 ⟨z, H3, I3, r3, k, e', q3⟩ => ?_)) hm
  subst e'
  cases r3
  refine wpAny_truthy_bool ?_
  cases k with
  | false => exact ite_ff ⟨.bl false, H3, I3, rfl, q3⟩
  | true =>
    refine ite_tt (chain_link (thn (hc.run pins s3 σ H3 _ I3 q3) fun w' s4 ⟨w, H4, I4, r4, q4⟩ => thn (ho' pins s4 σ H4 y w u w' _ I4 r2 r4 q4) fun e2 s5 ⟨z2, H5, I5, r5, k2, e5, q5⟩ => ?_))
    subst e5
    cases r5
    refine wpAny_truthy_bool ?_
    cases k2 with
    | false => exact ite_ff ⟨.bl false, H5, I5, rfl, q5⟩
    | true => exact ite_tt (chain_last (thn (hd.run pins s5 σ H5 _ I5 q5) fun v' s6 ⟨v6, H6, I6, r6, q6⟩ => ho'' pins s6 σ H6 w v6 w' v' Q I6 r4 r6 q6))
theorem pt_chain3 {op op' op'' : CmpOp} {r r' r'' : R2} (ho : OpR X (compareOp op) r) (ho' : OpR X (compareOp op') r') (ho'' : OpR X (compareOp op'') r'') (ha : PE X a ta) (hb : PE X b tb) (hc : PE X c tc) (hd : PE X d td)
    (hm : lastMarks [op, op', op''] [b, c, d] = false := by with_unfolding_all rfl) : PT X (.Compare a [op, op', op''] [b, c, d] pos) (tTest (tChain3 r r' r'' ta tb tc td)) := by
  refine ⟨fun pins s σ H Q I h => ?_⟩
  refine isTrue_chain (thn (ha.run pins s σ H _ I h) fun v s1 ⟨x, H1, I1, r1, q1⟩ => test_link (thn (hb.run pins s1 σ H1 _ I1 q1) fun u s2 ⟨y, H2, I2, r2, q2⟩ =>
    thn (ho pins s2 σ H2 x y v u _ I2 r1 r2 q2) fun e s3 ⟨z, H3, I3, r3, k, e', q3⟩ => ?_)) hm
  subst e'
  cases r3
  refine wpAny_truthy_bool ?_
  cases k with
  | false =>
    obtain ⟨k', e', q'⟩ := q3
    cases e'
    exact ite_ff ⟨H3, I3, q'⟩
  | true =>
    refine ite_tt (test_link (thn (hc.run pins s3 σ H3 _ I3 q3) fun w' s4 ⟨w, H4, I4, r4, q4⟩ => thn (ho' pins s4 σ H4 y w u w' _ I4 r2 r4 q4) fun e2 s5 ⟨z2, H5, I5, r5, k2, e5, q5⟩ => ?_))
    subst e5
    cases r5
    refine wpAny_truthy_bool ?_
    cases k2 with
    | false =>
      obtain ⟨k', e', q'⟩ := q5
      cases e'
      exact ite_ff ⟨H5, I5, q'⟩
    | true =>
      refine ite_tt (test_last (thn (hd.run pins s5 σ H5 _ I5 q5) fun v' s6 ⟨v6, H6, I6, r6, q6⟩ => thn (ho'' pins s6 σ H6 w v6 w' v' _ I6 r4 r6 q6) fun e7 s7 ⟨z7, H7, I7, r7, k7, e8, q7⟩ => ?_))
      subst e8
      cases r7
      exact wpAny_truthy_bool ⟨H7, I7, q7⟩
theorem tCh3_of {r r' r'' : R2} {k k' k'' : Va → Va → Hs → Rs Va} (h1 : VOp (ctOf X) r k) (h2 : VOp (ctOf X) r' k') (h3 : VOp (ctOf X) r'' k'') : ∀ σ H Q, tE (ctOf X) W (sCh3 k k' k'' fa fb fc fd) σ H Q → tChain3 r r' r'' (tE (ctOf X) W fa) (tE (ctOf X) W fb) (tE (ctOf X) W fc) (tE (ctOf X) W fd) σ H Q := fun σ H Q h =>
  tX_bnd h fun ρ H1 e hh1 x v hs hr rv p => Po_bnd hs hr p fun ρ2 H2 hh2 y u e2 hs2 hr2 ru p2 => by
    refine h1 ρ2 H2 hh2 x y v u (fun c d H' => W c d σ H') _ hr2 (rv.mono e2) ru ?_
    have p2 : Po _ _ _ _ _ _ (bnd (vl (k x y)) (fun z => byB (asB z) (bnd fc fun w => bnd (vl (k' y w)) fun z2 => byB (asB z2) (bnd fd fun u => vl (k'' w u)) (sK (.bl false))) (sK (.bl false))) e hh2) := p2
    unfold bnd vl at p2
    cases q : k x y hh2 with
    | ok z h3' =>
      rw [q] at p2
      intro ρ3 H3 w e3 hr3 rw_
      have p3 := Po.mono e3 p2
      have hs3 := hs2.mono e3
      rcases byB_cases p3 with ⟨rfl, p3⟩ | ⟨rfl, p3⟩
      · cases rw_
        refine ⟨true, rfl, iteT (Po_bnd (k := fun w => bnd (vl (k' y w)) fun z2 => byB (asB z2) (bnd fd fun u => vl (k'' w u)) (sK (.bl false))) hs3 hr3 p3 fun ρ4 H4 h4 w' w e4 hs4 hr4 r4 p4 => ?_)⟩
        refine h2 ρ4 H4 h4 y w' u w (fun c d H' => W c d σ H') _ hr4 ((ru.mono e3).mono e4) r4 ?_
        have p4 : Po _ _ _ _ _ _ (bnd (vl (k' y w')) (fun z2 => byB (asB z2) (bnd fd fun u => vl (k'' w' u)) (sK (.bl false))) e h4) := p4
        unfold bnd vl at p4
        cases q4 : k' y w' h4 with
        | ok z2 h5 =>
          rw [q4] at p4
          intro ρ5 H5 w5 e5 hr5 rw5
          have p5 := Po.mono e5 p4
          have hs5 := hs4.mono e5
          rcases byB_cases p5 with ⟨rfl, p5⟩ | ⟨rfl, p5⟩
          · cases rw5
            refine ⟨true, rfl, iteT (Po_bnd (k := fun u => vl (k'' w' u)) hs5 hr5 p5 fun ρ6 H6 h6 u' w6 e6 hs6 hr6 r6 p6 => ?_)⟩
            exact h3 ρ6 H6 h6 w' u' w w6 _ Q hr6 ((r4.mono e5).mono e6) r6 p6
          · cases rw5
            exact ⟨false, rfl, iteF (Po_ok p5 hr5 (.bl _))⟩
        | ex z h5 => rw [q4] at p4; exact p4
        | bad => rw [q4] at p4; exact p4
      · cases rw_
        exact ⟨false, rfl, iteF (Po_ok p3 hr3 (.bl _))⟩
    | ex z h3 => rw [q] at p2; exact p2
    | bad => rw [q] at p2; exact p2
theorem se_ch3 {op op' op'' : CmpOp} {k k' k'' : Va → Va → Hs → Rs Va} (ho : OpK X (compareOp op) k) (ho' : OpK X (compareOp op') k') (ho'' : OpK X (compareOp op'') k'') (ha : PE X a (tE (ctOf X) W fa)) (hb : PE X b (tE (ctOf X) W fb)) (hc : PE X c (tE (ctOf X) W fc)) (hd : PE X d (tE (ctOf X) W fd))
    (hm : lastMarks [op, op', op''] [b, c, d] = false := by with_unfolding_all rfl) : PE X (.Compare a [op, op', op''] [b, c, d] pos) (tE (ctOf X) W (sCh3 k k' k'' fa fb fc fd)) := by
  obtain ⟨r, h1, h2⟩ := ho
  obtain ⟨r', h1', h2'⟩ := ho'
  obtain ⟨r'', h1'', h2''⟩ := ho''
  exact pe_of (pe_chain3 h1 h1' h1'' ha hb hc hd hm) (tCh3_of h2 h2' h2'')
theorem st_ch3 {op op' op'' : CmpOp} {k k' k'' : Va → Va → Hs → Rs Va} (ho : OpK X (compareOp op) k) (ho' : OpK X (compareOp op') k') (ho'' : OpK X (compareOp op'') k'') (ha : PE X a (tE (ctOf X) W fa)) (hb : PE X b (tE (ctOf X) W fb)) (hc : PE X c (tE (ctOf X) W fc)) (hd : PE X d (tE (ctOf X) W fd))
    (hm : lastMarks [op, op', op''] [b, c, d] = false := by with_unfolding_all rfl) : PT X (.Compare a [op, op', op''] [b, c, d] pos) (tB_ X W (sBl (sCh3 k k' k'' fa fb fc fd))) := by
  obtain ⟨r, h1, h2⟩ := ho
  obtain ⟨r', h1', h2'⟩ := ho'
  obtain ⟨r'', h1'', h2''⟩ := ho''
  exact st_of (pt_chain3 h1 h1' h1'' ha hb hc hd hm) (tCh3_of h2 h2' h2'')
end
end Fw

set_option Elab.async false
set_option linter.all false
set_option maxRecDepth 100000
set_option maxHeartbeats 2000000
set_option autoImplicit false
namespace Fw
open PySem PySem.Spec L2
open PyProof.Rows hiding St
/-! ### range with a step -/
def srcC (lo c : Int) (n : Nat) : Src := fun i _ => if i < n then some (some (.int (lo + (i : Nat) * c))) else some none
theorem srcC_of {C : Ct} {ρ : List Addr} {H : Hp} {lo c : Int} {n : Nat} : SrcR C ρ H (srcC lo c n) (Itc lo c n) := by
  refine ⟨fun ρ1 H1 h1 i ex hr e => ?_, fun ρ1 H1 h1 i y ex hr e => ?_⟩
  · unfold srcC at e
    split at e
    · cases e
    · rename_i c
      exact Nat.le_of_not_lt c
  · unfold srcC at e
    split at e
    · rename_i c
      cases e
      refine ⟨c, fun v H2 ⟨q1, q2⟩ => ?_⟩
      subst q1 q2
      exact ⟨.refl, hr, .int _⟩
    · cases e
def sRg3 (f : Sm (List Va)) : Sit := bnd f fun xs _ h => match xs with
  | [.int i, .int j, .int c] => if (c ≠ 0 ∧ c.natAbs < 1073741824) ∧ Builtin.Range.small i j c = true ∧ 0 ≤ Builtin.Range.rangeSize i j c then .ok (srcC i c (Builtin.Range.rangeSize i j c).toNat, (Builtin.Range.rangeSize i j c).toNat) h else .bad
  | _ => .bad
section
variable {X : Cx} {W : WX} {tg a b c e : Expr} {fe : Sx} {fa : Sm (List Va)} {p pos : Pos}
theorem si_rg3 (hg : Gl X "range") (hm : X.mg "range" = none) (ha : PA X [a, b, c] (tAr (ctOf X) W fa)) (hs : starEach [a, b, c] X.env = (false, eval a X.env) :: starEach [b, c] X.env := by rfl) (hpl : (backTo pos (starEach [b, c] X.env)).any (·.1) = false := by rfl) : PI X tg (.Call (.Name "range" p) [a, b, c] [] pos) (tIt (ctOf X) W (sRg3 fa)) := pi_of (pi_range3 hg hm ha hs hpl) fun σ H Q h => tX_bnd h fun ρ H1 e h1 xs vs hs hr rv p => by
  split at p
  · split at p
    · rename_i i j c q
      cases rv with
      | cons r1 r2 => cases r1; cases r2 with
        | cons r2 r3 => cases r2; cases r3 with
          | cons r3 r4 =>
            cases r3; cases r4
            exact ⟨_, _, _, _, rfl, ⟨q.1.1, q.1.2, q.2.1, (Int.toNat_of_nonneg q.2.2).symm⟩, p ρ H1 _ .refl hr srcC_of⟩
    · exact p.elim
  · exact p.elim
end
/-! ### list(range(..)), tuple(range(..)) -/
def rgA (i j : Int) : List Va := (List.range (j - i).toNat).map fun k => Va.int (i + (k : Nat))
theorem rp_rg {C : Ct} {ρ : List Addr} {H : Hp} {f : Nat → Int} : ∀ l : List Nat, RpL C ρ H (l.map fun k => Va.int (f k)) (l.map fun k => V.int (f k))
  | [] => .nil
  | _ :: r => .cons (.int _) (rp_rg r)
def lnRg (i j : Int) : Prop := -(2 ^ 62) ≤ i ∧ i < 2 ^ 62 ∧ -(2 ^ 62) ≤ j ∧ j < 2 ^ 62 ∧ (j - i).toNat ≤ 2 ^ 24
instance (i j : Int) : Decidable (lnRg i j) := by unfold lnRg; infer_instance
def sLstRg1 (f : Sx) : Sx := bnd f fun x _ h => match x with
  | .int j => if lnRg 0 j then newL (rgA 0 j) h else .bad
  | _ => .bad
def sTupRg1 (f : Sx) : Sx := bnd f fun x _ h => match x with
  | .int j => if lnRg 0 j then .ok (.tup (rgA 0 j)) h else .bad
  | _ => .bad
def sLstRg2 (f g : Sx) : Sx := bnd f fun x => bnd g fun y _ h => match x, y with
  | .int i, .int j => if lnRg i j then newL (rgA i j) h else .bad
  | _, _ => .bad
def sTupRg2 (f g : Sx) : Sx := bnd f fun x => bnd g fun y _ h => match x, y with
  | .int i, .int j => if lnRg i j then .ok (.tup (rgA i j)) h else .bad
  | _, _ => .bad
section
variable {X : Cx} {W : WX} {a b : Expr} {fa fb : Sx} {p pos p' pos' : Pos}
theorem se_lstRg1 (hc : X.calm = true) (hl : Gl X "list") (hml : X.mg "list" = none) (hg : Gl X "range") (hm : X.mg "range" = none) (ha : PE X a (tE (ctOf X) W fa)) (na : starEach [a] X.env = (false, eval a X.env) :: starEach [] X.env := by rfl)
    (nr : starEach [.Call (.Name "range" p') [a] [] pos'] X.env = (false, eval (.Call (.Name "range" p') [a] [] pos') X.env) :: starEach [] X.env := by rfl) : PE X (.Call (.Name "list" p) [.Call (.Name "range" p') [a] [] pos'] [] pos) (tE (ctOf X) W (sLstRg1 fa)) :=
  pe_of (pe_listRg hc hl hml (prg_1 hg hm ha na) nr) fun σ H Q h => tX_bnd h fun ρ H1 e h1 x v hs hr rv p => by
    split at p
    · split at p
      · rename_i j c
        cases rv
        exact ⟨_, rfl, c, (newL_of hr (rp_rg _) p).2⟩
      · exact p.elim
    · exact p.elim
theorem se_tupRg1 (hc : X.calm = true) (hl : Gl X "tuple") (hml : X.mg "tuple" = none) (hg : Gl X "range") (hm : X.mg "range" = none) (ha : PE X a (tE (ctOf X) W fa)) (na : starEach [a] X.env = (false, eval a X.env) :: starEach [] X.env := by rfl)
    (nr : starEach [.Call (.Name "range" p') [a] [] pos'] X.env = (false, eval (.Call (.Name "range" p') [a] [] pos') X.env) :: starEach [] X.env := by rfl) : PE X (.Call (.Name "tuple" p) [.Call (.Name "range" p') [a] [] pos'] [] pos) (tE (ctOf X) W (sTupRg1 fa)) :=
  pe_of (pe_tupRg hc hl hml (prg_1 hg hm ha na) nr) fun σ H Q h => tX_bnd h fun ρ H1 e h1 x v hs hr rv p => by
    split at p
    · split at p
      · rename_i j c
        cases rv
        exact ⟨_, rfl, c, Po_tup hr (rp_rg _) p⟩
      · exact p.elim
    · exact p.elim
theorem se_lstRg2 (hc : X.calm = true) (hl : Gl X "list") (hml : X.mg "list" = none) (hg : Gl X "range") (hm : X.mg "range" = none) (ha : PE X a (tE (ctOf X) W fa)) (hb : PE X b (tE (ctOf X) W fb)) (na : starEach [a, b] X.env = (false, eval a X.env) :: starEach [b] X.env := by rfl)
    (nb : starEach [b] X.env = (false, eval b X.env) :: starEach [] X.env := by rfl) (hp : (backTo pos' (starEach [b] X.env)).any (·.1) = false := by rfl)
    (nr : starEach [.Call (.Name "range" p') [a, b] [] pos'] X.env = (false, eval (.Call (.Name "range" p') [a, b] [] pos') X.env) :: starEach [] X.env := by rfl) : PE X (.Call (.Name "list" p) [.Call (.Name "range" p') [a, b] [] pos'] [] pos) (tE (ctOf X) W (sLstRg2 fa fb)) :=
  pe_of (pe_listRg hc hl hml (prg_2 hg hm ha hb na nb hp) nr) fun σ H Q h => tX_bnd h fun ρ H1 e h1 x v hs hr rv p => Po_bnd hs hr p fun ρ2 H2 hh2 y u e2 hs2 hr2 ru p2 => by
    split at p2
    · split at p2
      · rename_i i j c
        cases rv
        cases ru
        exact ⟨_, _, rfl, rfl, c, (newL_of hr2 (rp_rg _) p2).2⟩
      · exact p2.elim
    · exact p2.elim
theorem se_tupRg2 (hc : X.calm = true) (hl : Gl X "tuple") (hml : X.mg "tuple" = none) (hg : Gl X "range") (hm : X.mg "range" = none) (ha : PE X a (tE (ctOf X) W fa)) (hb : PE X b (tE (ctOf X) W fb)) (na : starEach [a, b] X.env = (false, eval a X.env) :: starEach [b] X.env := by rfl)
    (nb : starEach [b] X.env = (false, eval b X.env) :: starEach [] X.env := by rfl) (hp : (backTo pos' (starEach [b] X.env)).any (·.1) = false := by rfl)
    (nr : starEach [.Call (.Name "range" p') [a, b] [] pos'] X.env = (false, eval (.Call (.Name "range" p') [a, b] [] pos') X.env) :: starEach [] X.env := by rfl) : PE X (.Call (.Name "tuple" p) [.Call (.Name "range" p') [a, b] [] pos'] [] pos) (tE (ctOf X) W (sTupRg2 fa fb)) :=
  pe_of (pe_tupRg hc hl hml (prg_2 hg hm ha hb na nb hp) nr) fun σ H Q h => tX_bnd h fun ρ H1 e h1 x v hs hr rv p => Po_bnd hs hr p fun ρ2 H2 hh2 y u e2 hs2 hr2 ru p2 => by
    split at p2
    · split at p2
      · rename_i i j c
        cases rv
        cases ru
        exact ⟨_, _, rfl, rfl, c, Po_tup hr2 (rp_rg _) p2⟩
      · exact p2.elim
    · exact p2.elim
end
/-! ### l.index(x) -/
def kIdx : Va → List Va → Hs → Rs Va
  | .loc n, [x] => fun h => match h[n]? with
    | some (.lst xs) => if flA x = true ∧ xs.all flA = true then (match xs.findIdx? (fun z => eqA z x) with
      | some j => .ok (.int (j : Nat)) h
      | none => .bad) else .bad
    | _ => .bad
  | _, _ => fun _ => .bad
theorem rpL_at {C : Ct} {ρ : List Addr} {H : Hp} : ∀ {xs : List Va} {vs : List V}, RpL C ρ H xs vs → ∀ (j : Nat) (z : V), vs[j]? = some z → ∃ x, xs[j]? = some x ∧ Rp C ρ H x z
  | _, _, .nil, j, z, e => by simp at e
  | _, _, .cons (x := x) r rs, 0, z, e => by
    simp at e
    subst e
    exact ⟨x, rfl, r⟩
  | _, _, .cons r rs, j + 1, z, e => rpL_at rs j z (by simpa using e)
theorem rpL_to {C : Ct} {ρ : List Addr} {H : Hp} : ∀ {xs : List Va} {vs : List V}, RpL C ρ H xs vs → ∀ (j : Nat) (x : Va), xs[j]? = some x → ∃ z, vs[j]? = some z ∧ Rp C ρ H x z
  | _, _, .nil, j, x, e => by simp at e
  | _, _, .cons (v := v) r rs, 0, x, e => by
    simp at e
    subst e
    exact ⟨v, rfl, r⟩
  | _, _, .cons r rs, j + 1, x, e => rpL_to rs j x (by simpa using e)
theorem ms_idx {X : Cx} : MtK X "list.index" kIdx := ⟨_, mt_index, by
  intro ρ H h x xs v vs W Q hr rv rs p
  unfold kIdx at p
  split at p
  · rename_i n y
    obtain ⟨w, rfl, rw_⟩ := one_arg rs rfl
    split at p
    · rename_i ys hn
      obtain ⟨a, us, rfl, ha, hl, rl⟩ := hr.ls_ hn rv
      split at p
      · rename_i c
        split at p
        · rename_i j hj
          rw [List.findIdx?_eq_some_iff_getElem] at hj
          obtain ⟨jl, j1, j2⟩ := hj
          obtain ⟨z, z1, z2⟩ := rpL_to rl j ys[j] (List.getElem?_eq_getElem jl)
          have fl : ∀ i (hi : i < ys.length), flA ys[i] = true := fun i hi => List.all_eq_true.mp c.2 _ (List.getElem_mem hi)
          refine ⟨a, us, w, j, z, rfl, rfl, SqL.of hl, flA_V rw_ c.1, flA_all rl c.2, z1, by rw [eqA_V z2 rw_ (fl j jl) c.1]; exact j1, fun m z' hm hz => ?_, Po_ok p hr (.int _)⟩
          obtain ⟨x', x1, x2⟩ := rpL_at rl m z' hz
          obtain ⟨ml, me⟩ := List.getElem?_eq_some_iff.mp x1
          subst me
          rw [eqA_V x2 rw_ (fl m ml) c.1]
          exact Bool.eq_false_iff.mpr (j2 m hm)
        · exact p.elim
      · exact p.elim
    · exact p.elim
  · exact p.elim⟩
/-! ### a & b, x.bit_length() -/
def kBan : Va → Va → Hs → Rs Va
  | .int i, .int j => fun h => .ok (.int (Builtin.bitAnd i j)) h
  | _, _ => fun _ => .bad
theorem ks_band {X : Cx} : OpK X (binaryOp .BitAnd) kBan := ⟨_, op_and, vI0 (fun _ _ _ _ => .int _) fun x y h => by
  cases x <;> cases y <;> first | exact .inr rfl | exact .inl ⟨_, _, rfl, rfl, rfl⟩⟩
def sBits (f : Sx) : Sx := bnd f fun x _ h => match x with
  | .int i => .ok (.int (Builtin.Int.intBits i : Nat)) h
  | _ => .bad
theorem se_bits {X : Cx} {W : WX} {a : Expr} {fa : Sx} {apos pos : Pos} (ha : PE X a (tE (ctOf X) W fa)) (hbase : attributeBase a "bit_length" X.env (eval a X.env) = eval a X.env := by rfl) (hline : (apos.endLine == pos.line) = true := by rfl) : PE X (.Call (.Attribute a "bit_length" apos) [] [] pos) (tE (ctOf X) W (sBits fa)) :=
  pe_of (pe_bits ha hbase hline) fun σ H Q h => tX_bnd h fun ρ H1 e h1 x v hs hr rv p => by
    split at p
    · cases rv
      exact ⟨_, rfl, Po_ok p hr (.int _)⟩
    · exact p.elim
end Fw

set_option Elab.async false
set_option linter.all false
set_option maxRecDepth 100000
set_option maxHeartbeats 2000000
set_option autoImplicit false
namespace Fw
open PySem PySem.Spec L2 PyProof
open PyProof.Rows hiding St
/-! ### o[i] op= e -/
section
variable {X : Cx} {W : WX}
theorem pg_list : PGet X (rIxL X.K) := by
  intro pins s σ H x y v u Q I rx ry h
  obtain ⟨p, xs, i, z, rfl, rfl, hq, he, q⟩ := h
  cases rx
  obtain ⟨t, rfl⟩ := ry
  obtain ⟨its, r, pl, hz⟩ := I.list hq
  obtain ⟨j, h1, h2, h3, h4, h5⟩ := atI_get he
  obtain ⟨w, ew, rw'⟩ := r.get h2
  have hl := r.length
  have hn := line63
  have fin : EP X pins σ Q w s := ⟨z, H, I, rw', q⟩
  by_cases h0 : 0 ≤ i
  · have hj : i.toNat = j := by
      rw [seqIndex_of h0 h5] at h1
      exact Option.some.inj h1
    exact wpAny_getItem_list pl.isList h0 (by omega) (by rw [hj]; simpa using ew) fin
  · have hj : (i + (its.toArray.size : Int)).toNat = j := by
      rw [seqIndex_neg (by omega) h4] at h1
      rw [List.size_toArray, ← hl]
      exact Option.some.inj h1
    exact wpAny_getItem_list_neg pl.isList (by omega) (by rw [List.size_toArray] <;> omega) (by omega) (by rw [hj]; simpa using ew) fin
/-- l[i] of a list at a place -/
def kIxL : Va → Va → Hs → Rs Va
  | .loc n, .int i => fun h => match h[n]? with
    | some (.lst xs) => match atI xs i with
      | some x => .ok x h
      | none => .bad
    | _ => .bad
  | _, _ => fun _ => .bad
theorem vIxL : VOp (ctOf X) (rIxL X.K) kIxL := by
  intro ρ H h x y v u W Q hr rx ry p
  unfold kIxL at p
  split at p
  · rename_i n i
    cases ry
    split at p
    · rename_i xs hn
      split at p
      · rename_i z hz
        obtain ⟨a, vs, rfl, ha, hl, rl⟩ := hr.ls_ hn rx
        obtain ⟨w, h1, h2⟩ := atI_rel rl hz
        exact ⟨a, vs, i, w, rfl, rfl, SqL.of hl, h1, Po_ok p hr h2⟩
      · exact p.elim
    · exact p.elim
  · exact p.elim
def sAugS (k : Va → Va → Hs → Rs Va) (fo fi fe : Sx) : Ss := fun e h => match (bnd fo fun o => bnd fi fun i => bnd (vl (kIxL o i)) fun x => bnd fe fun y => bnd (vl (k x y)) fun z => fun _ h => match kSet o i z h with | some h' => Rs.ok () h' | none => .bad) e h with
  | .ok _ h' => .nx e h'
  | _ => .bad
theorem sp_augS {op : Operator} {k : Va → Va → Hs → Rs Va} {o i e' : Expr} {fo fi fe : Sx} {tpos pos : Pos} (ho : PE X o (tE (ctOf X) W fo)) (hi : PE X i (tE (ctOf X) W fi)) (he : PE X e' (tE (ctOf X) W fe)) (hp : OpK X (inplaceOp op) k)
    (ha : ∀ ov iv new, augStore i ov iv new = (do holding [new, ov, iv] (setItem ov iv new); release [new, ov, iv] []; pure .next) := by intros; rfl) : PS X (.AugAssign (.Subscript o i tpos) op e' pos) (tS_ X W (sAugS k fo fi fe)) := by
  obtain ⟨t, h1, h2⟩ := hp
  refine ps_of (ps_augS ho hi pg_list he h1 set_list ha) fun D σ H ⟨ρ, e, h, hs, hr, p⟩ => ?_
  have p : PoS (ctOf X) W D ρ H (sAugS k fo fi fe e h) := p
  unfold sAugS at p
  generalize hq : (bnd fo fun o => bnd fi fun i => bnd (vl (kIxL o i)) fun x => bnd fe fun y => bnd (vl (k x y)) fun z => fun _ h => match kSet o i z h with | some h' => Rs.ok () h' | none => .bad) e h = r at p
  have p2 : Po (ctOf X) (fun _ _ (_ : Unit) (_ : Unit) => True) (fun c d H' => W c d σ H') (fun _ H' => D.nx σ H') ρ H r := by
    cases r with
    | ok _ h' => exact fun ρ' H' _ ex hr' _ => p ρ' H' σ ex hr' (hs.mono ex)
    | ex _ _ => exact p.elim
    | bad => exact p.elim
  rw [← hq] at p2
  refine Po_bnd (k := fun o => bnd fi fun i => bnd (vl (kIxL o i)) fun x => bnd fe fun y => bnd (vl (k x y)) fun z => fun _ h => match kSet o i z h with | some h' => Rs.ok () h' | none => .bad) hs hr p2 fun ρ1 H1 h1' o vo e1 hs1 hr1 ro p3 => Po_bnd (k := fun i => bnd (vl (kIxL o i)) fun x => bnd fe fun y => bnd (vl (k x y)) fun z => fun _ h => match kSet o i z h with | some h' => Rs.ok () h' | none => .bad) hs1 hr1 p3 fun ρ2 H2 h2' i vi e2 hs2 hr2 ri p4 => ?_
  refine vIxL ρ2 H2 h2' o i vo vi (fun c d H' => W c d σ H') _ hr2 (ro.mono e2) ri ?_
  have p4 : Po _ _ _ _ _ _ (bnd (vl (kIxL o i)) (fun x => bnd fe fun y => bnd (vl (k x y)) fun z => fun _ h => match kSet o i z h with | some h' => Rs.ok () h' | none => .bad) e h2') := p4
  unfold bnd vl at p4
  cases q : kIxL o i h2' with
  | ok x h3 =>
    rw [q] at p4
    intro ρ3 H3 vx e3 hr3 rx
    have p5 := Po.mono e3 p4
    have hs3 := hs2.mono e3
    refine Po_bnd (k := fun y => bnd (vl (k x y)) fun z => fun _ h => match kSet o i z h with | some h' => Rs.ok () h' | none => .bad) hs3 hr3 p5 fun ρ4 H4 h4 y vy e4 hs4 hr4 ry p6 => ?_
    refine h2 ρ4 H4 h4 x y vx vy (fun c d H' => W c d σ H') _ hr4 (rx.mono e4) ry ?_
    have p6 : Po _ _ _ _ _ _ (bnd (vl (k x y)) (fun z => fun _ h => match kSet o i z h with | some h' => Rs.ok () h' | none => .bad) e h4) := p6
    unfold bnd vl at p6
    cases q6 : k x y h4 with
    | ok z h5 =>
      rw [q6] at p6
      intro ρ5 H5 vz e5 hr5 rz
      have p7 := Po.mono e5 p6
      dsimp only at p7
      cases q7 : kSet o i z h5 with
      | none => rw [q7] at p7; exact p7.elim
      | some h' =>
        rw [q7] at p7
        exact kSet_of hr5 (((ro.mono e2).mono e3).mono e4 |>.mono e5) ((ri.mono e3).mono e4 |>.mono e5) rz q7 fun H' ex hr' => p7 ρ5 H' () ex hr' trivial
    | ex z h5 => rw [q6] at p6; exact p6
    | bad => rw [q6] at p6; exact p6
  | ex x h3 => rw [q] at p4; exact p4
  | bad => rw [q] at p4; exact p4
end
end Fw

set_option Elab.async false
set_option linter.all false
set_option maxRecDepth 100000
set_option maxHeartbeats 2000000
set_option autoImplicit false
namespace Fw
open PySem PySem.Spec L2 RZ
open PyProof.Rows hiding St
/-! ### zip of two lists, of two tuples -/
def zip2 (xs ys : List Va) (i : Nat) : Option Va := match xs[i]?, ys[i]? with
  | some x, some y => some (.tup [x, y])
  | _, _ => none
def srcZL (n m : Nat) : Src := fun i h => match h[n]?, h[m]? with
  | some (.lst xs), some (.lst ys) => some (zip2 xs ys i)
  | _, _ => none
def srcZV (xs ys : List Va) : Src := fun i _ => some (zip2 xs ys i)
theorem zip2_none {C : Ct} {ρ : List Addr} {H : Hp} {xs ys : List Va} {vs us : List V} (r : RpL C ρ H xs vs) (s : RpL C ρ H ys us) {i : Nat} (e : zip2 xs ys i = none) : vs.length ≤ i ∨ us.length ≤ i := by
  rw [← r.length, ← s.length]
  unfold zip2 at e
  split at e
  · cases e
  · rename_i h
    by_cases c : xs.length ≤ i
    · exact .inl c
    · by_cases d : ys.length ≤ i
      · exact .inr d
      · exact (h xs[i] ys[i] (List.getElem?_eq_getElem (by omega)) (List.getElem?_eq_getElem (by omega))).elim
theorem zip2_some {C : Ct} {ρ : List Addr} {H : Hp} {xs ys : List Va} {vs us : List V} (r : RpL C ρ H xs vs) (s : RpL C ρ H ys us) {i : Nat} {z : Va} (e : zip2 xs ys i = some z) : ∃ x y v u, z = .tup [x, y] ∧ vs[i]? = some v ∧ us[i]? = some u ∧ Rp C ρ H x v ∧ Rp C ρ H y u := by
  unfold zip2 at e
  split at e
  · rename_i x y ex ey
    cases e
    obtain ⟨v, v1, v2⟩ := r.get ex
    obtain ⟨u, u1, u2⟩ := s.get ey
    exact ⟨x, y, v, u, rfl, v1, u1, v2, u2⟩
  · cases e
section
variable {C : Ct} {ρ : List Addr} {H : Hp}
theorem srcZL_of {n m : Nat} {a b : Addr} (ha : ρ[n]? = some a) (hb : ρ[m]? = some b) : SrcR C ρ H (srcZL n m) (Itz C.K a b) := by
  have look : ∀ {ρ1 H1 h1 i r}, Ext C ρ H ρ1 H1 → HR C ρ1 h1 H1 → srcZL n m i h1 = some r → ∃ xs vs ys us, H1 a = some (.lst vs) ∧ RpL C ρ1 H1 xs vs ∧ H1 b = some (.lst us) ∧ RpL C ρ1 H1 ys us ∧ zip2 xs ys i = r := fun {ρ1 H1 h1 i r} ex hr e => by
    unfold srcZL at e
    split at e
    · rename_i xs ys hn hm
      obtain ⟨vs, e1, e2⟩ := hr.ob n _ a hn (ex.pre n a ha)
      obtain ⟨us, f1, f2⟩ := hr.ob m _ b hm (ex.pre m b hb)
      exact ⟨xs, vs, ys, us, e1, e2, f1, f2, Option.some.inj e⟩
    · cases e
  refine ⟨fun ρ1 H1 h1 i ex hr e => ?_, fun ρ1 H1 h1 i x ex hr e => ?_⟩
  · obtain ⟨xs, vs, ys, us, e1, e2, f1, f2, e3⟩ := look ex hr e
    exact ⟨vs, us, SqL.of e1, SqL.of f1, zip2_none e2 f2 e3⟩
  · obtain ⟨xs, vs, ys, us, e1, e2, f1, f2, e3⟩ := look ex hr e
    obtain ⟨x0, y0, v0, u0, rfl, g1, g2, g3, g4⟩ := zip2_some e2 f2 e3
    refine ⟨⟨vs, us, v0, u0, SqL.of e1, SqL.of f1, g1, g2⟩, fun v' H2 ⟨T, x, y, q1, q2, q3, q4, q5⟩ => ?_⟩
    subst q1 q3
    have a1 := q4 vs (SqL.of e1)
    have a2 := q5 us (SqL.of f1)
    rw [g1] at a1
    rw [g2] at a2
    cases a1
    cases a2
    have en := ext_new (C := C) (ρ := ρ1) (o := .tup [v0, u0]) q2
    exact ⟨en, hr.tup_ q2, .tup (SqT.of upd_same) (.cons (g3.mono en) (.cons (g4.mono en) .nil))⟩
theorem srcZV_of {xs ys : List Va} {a b : Addr} (ra : Rp C ρ H (.tup xs) (.ref a)) (rb : Rp C ρ H (.tup ys) (.ref b)) : SrcR C ρ H (srcZV xs ys) (ItzT C.K a b) := by
  refine ⟨fun ρ1 H1 h1 i ex hr e => ?_, fun ρ1 H1 h1 i x ex hr e => ?_⟩
  · cases ra.mono ex with
    | tup hq rl => cases rb.mono ex with
      | tup hq2 rl2 => exact ⟨_, _, hq, hq2, zip2_none rl rl2 (Option.some.inj e)⟩
  · cases ra.mono ex with
    | tup hq rl => cases rb.mono ex with
      | tup hq2 rl2 =>
        obtain ⟨x0, y0, v0, u0, rfl, g1, g2, g3, g4⟩ := zip2_some rl rl2 (Option.some.inj e)
        refine ⟨⟨_, _, v0, u0, hq, hq2, g1, g2⟩, fun v' H2 ⟨T, x, y, q1, q2, q3, q4, q5⟩ => ?_⟩
        subst q1 q3
        have a1 := q4 _ hq
        have a2 := q5 _ hq2
        rw [g1] at a1
        rw [g2] at a2
        cases a1
        cases a2
        have en := ext_new (C := C) (ρ := ρ1) (o := .tup [v0, u0]) q2
        exact ⟨en, hr.tup_ q2, .tup (SqT.of upd_same) (.cons (g3.mono en) (.cons (g4.mono en) .nil))⟩
end
def sZip (f : Sm (List Va)) : Sit := bnd f fun xs _ h => match xs with
  | [.loc n, .loc m] => match h[n]?, h[m]? with
    | some (.lst xs), some (.lst ys) => .ok (srcZL n m, min xs.length ys.length) h
    | _, _ => .bad
  | [.tup xs, .tup ys] => .ok (srcZV xs ys, min xs.length ys.length) h
  | _ => .bad
theorem si_zip {X : Cx} {W : WX} {a b : Expr} {fa : Sm (List Va)} {p pos : Pos} {elts : List Expr} {kk : Nat} {tpos : Pos} (hg : Gl X "zip") (hm : X.mg "zip" = none) (ha : PA X [a, b] (tAr (ctOf X) W fa)) (hs : starEach [a, b] X.env = (false, eval a X.env) :: starEach [b] X.env := by rfl) (hpl : (backTo pos (starEach [b] X.env)).any (·.1) = false := by rfl) :
    PI X (.Tuple elts kk tpos) (.Call (.Name "zip" p) [a, b] [] pos) (tIt (ctOf X) W (sZip fa)) := pi_of (pi_zipA hg hm ha hs hpl) fun σ H Q h => tX_bnd h fun ρ H1 e h1 xs vs hs hr rv p => by
  split at p
  · rename_i n m
    split at p
    · rename_i ys zs hn hm
      cases rv with
      | cons r1 r2 => cases r2 with
        | cons r2 r3 =>
          cases r3
          obtain ⟨a, us, rfl, ha, hl, rl⟩ := hr.ls_ hn r1
          obtain ⟨b, ws, rfl, hb, hl2, rl2⟩ := hr.ls_ hm r2
          exact ⟨a, b, us, ws, rfl, .inl ⟨SqL.of hl, SqL.of hl2, p ρ H1 _ .refl hr (srcZL_of ha hb)⟩⟩
    · exact p.elim
  · rename_i ys zs
    cases rv with
    | cons r1 r2 => cases r2 with
      | cons r2 r3 =>
        cases r3
        cases r1 with
        | tup hq rl => cases r2 with
          | tup hq2 rl2 => exact ⟨_, _, _, _, rfl, .inr ⟨hq, hq2, p ρ H1 _ .refl hr (srcZV_of (.tup hq rl) (.tup hq2 rl2))⟩⟩
  · exact p.elim
end Fw

set_option Elab.async false
set_option linter.all false
set_option maxRecDepth 100000
set_option maxHeartbeats 2000000
set_option autoImplicit false
namespace Fw
open PySem PySem.Spec L2
open PyProof.Rows hiding St
/-! ### a text by a start and a step of 2 -/
def stpS (z : List Nat) (i : Int) : List Nat := (Builtin.Str.strSliceIndices (some i) none 2 z.length).filterMap (z[·]?)
def kStp2 : Va → Va → Hs → Rs Va
  | .str z, .int i => fun h => if (stpS z i).length ≤ 16777216 then .ok (.str (stpS z i)) h else .bad
  | _, _ => fun _ => .bad
def tStpS (te tl : TE) : TE := fun σ H Q => te σ H fun x H1 => tPart tl σ H1 fun o H2 => ∃ (z : Str) (i : Int), x = .str z ∧ o = some i ∧ (stpS z.cps.toList i).length ≤ sizeLine ∧ Q (.str ⟨(stpS z.cps.toList i).toArray⟩) H2
theorem pe_stpS {X : Cx} {e lo : Expr} {te tl : TE} {k : Nat} {p1 p3 pos : Pos} (he : PE X e te) (hl : PE X lo tl) : PE X (.Subscript e (.Slice (some lo) none (some (.Constant (.int 2) k p1)) p3) pos) (tStpS te tl) := by
  refine ⟨fun pins s σ H Q I h => ?_⟩
  refine Subscript_ (thn (he.run pins s σ H _ I h) fun v s1 ⟨x, H1, I1, r1, q1⟩ => ?_)
  have hlo : PO X (some lo) (tPart tl) := po_some hl
  have hst : PO X (some (.Constant (.int 2) k p1)) (tPart (tC (.int 2))) := po_some pe_int
  refine wpAny_Slice (thn (hlo.run pins s1 σ H1 (fun o H2 => ∃ (z : Str) (i : Int), x = .str z ∧ o = some i ∧ (stpS z.cps.toList i).length ≤ sizeLine ∧ Q (.str ⟨(stpS z.cps.toList i).toArray⟩) H2) I1 ?_) fun vl s2 ⟨l, H2, I2, pl, q2⟩ => ?_)
  · exact q1
  obtain ⟨z, i, ex, el, hz, q⟩ := q2
  subst ex el
  obtain ⟨t, rfl⟩ := r1
  refine thn (po_none.run pins s2 σ H2 (fun o H3 => o = none ∧ H3 = H2) I2 ⟨rfl, rfl⟩) fun vu s3 ⟨u, H3, I3, pu, eu, e3⟩ => ?_
  subst eu e3
  refine thn (hst.run pins s3 σ H3 (fun o H4 => o = some 2 ∧ H4 = H3) I3 ⟨2, rfl, rfl, rfl⟩) fun vs s4 ⟨o, H4, I4, ps, eo, e4⟩ => ?_
  subst eo e4
  have I5 : Inv X pins σ H4 { s4 with heap := s4.heap.push { cls := .type "slice", data := .fields #[vl, vu, vs] } } := I4.kept (t' := s4.toks) fun b ob q => Heap.get?_push_of_some _ q
  obtain ⟨l1, e1, e2⟩ := IsPart.raw pl
  obtain ⟨u1, f1, f2⟩ := IsPart.raw pu
  obtain ⟨w1, g1, g2⟩ := IsPart.raw ps
  subst e1 f1 g1
  show wpAny (model X.prog X.w) X.A (subscriptTail e (.Slice (some lo) none (some (.Constant (.int 2) k p1)) p3) (.str z t) (.ref s4.heap.objs.size)) (EP X pins σ Q) X.xe _
  refine tail_any (ops := [.str z t, .ref s4.heap.objs.size]) (typeIs_str _ _ _) (F.slot_str_getitem.lookup) ?_ (by with_unfolding_all rfl)
  refine wpAny_getItem_str_slice (l := l1) (u := u1) (st := w1) ⟨_, Heap.get?_push_size _ rfl, rfl, rfl⟩ (by rw [g2]; rfl) ?_
  unfold sliceMade slicePicked
  rw [e2, f2, g2]
  show Made.post (.str ⟨((Builtin.Str.strSliceIndices (some i) none 2 z.length).filterMap (z.cps[·]?)).toArray⟩) (EP X pins σ Q) _
  have e9 : (Builtin.Str.strSliceIndices (some i) none 2 z.length).filterMap (z.cps[·]?) = stpS z.cps.toList i := by
    unfold stpS
    simp [Str.length]
  rw [e9]
  refine ⟨?_, .str _, H4, I5.tok _, ⟨_, rfl⟩, q⟩
  simp only [Str.length, List.size_toArray]
  exact hz
theorem se_stp {X : Cx} {W : WX} {e lo : Expr} {fe fl : Sx} {k : Nat} {p1 p3 pos : Pos} (he : PE X e (tE (ctOf X) W fe)) (hl : PE X lo (tE (ctOf X) W fl)) : PE X (.Subscript e (.Slice (some lo) none (some (.Constant (.int 2) k p1)) p3) pos) (tE (ctOf X) W (s2 kStp2 fe fl)) :=
  pe_of (pe_stpS he hl) fun σ H Q h => tX_bnd h fun ρ H1 e h1 x v hs hr rv p => Po_bnd hs hr p fun ρ2 H2 hh2 y u e2 hs2 hr2 ru p2 => by
    change Po _ _ _ _ _ _ (kStp2 x y hh2) at p2
    unfold kStp2 at p2
    split at p2
    · rename_i z i
      cases rv
      cases ru
      split at p2
      · rename_i c
        exact ⟨i, rfl, ⟨z.toArray⟩, i, rfl, rfl, by rw [line_eq]; simpa using c, by simpa using Po_ok p2 hr2 (.str _)⟩
      · exact p2.elim
    · exact p2.elim
end Fw

set_option Elab.async false
set_option linter.all false
set_option maxRecDepth 100000
set_option maxHeartbeats 2000000
set_option autoImplicit false
namespace Fw
open PySem PySem.Spec L2
open PyProof.Rows hiding St
/-! ### {k: v, ..} -/
inductive RpP (C : Ct) (ρ : List Addr) (H : Hp) : List (Va × Va) → List (V × V) → Prop
  | nil : RpP C ρ H [] []
  | cons {x y : Va} {v u : V} {ps : List (Va × Va)} {qs : List (V × V)} : Rp C ρ H x v → Rp C ρ H y u → RpP C ρ H ps qs → RpP C ρ H ((x, y) :: ps) ((v, u) :: qs)
def sPrs : List (Sx × Sx) → Sm (List (Va × Va))
  | [] => fun _ h => .ok [] h
  | f :: r => bnd f.1 fun x => bnd f.2 fun y => bnd (sPrs r) fun ps => fun _ h => .ok ((x, y) :: ps) h
def putAll : List (Va × Va) → List (Va × Va) → Option (List (Va × Va))
  | acc, [] => some acc
  | acc, p :: r => match keyA p.1 with
    | some k => putAll (dPut acc k p.1 p.2) r
    | none => none
def dspEnd (n : Nat) (ps : List (Va × Va)) (h : Hs) : Rs Va := match h[n]? with
  | some (.dct []) => match putAll [] ps with
    | some d => if ps.length ≤ 15 then .ok (.loc n) (h.set n (.dct d)) else .bad
    | none => .bad
  | _ => .bad
def sDsp (fs : List (Sx × Sx)) : Sx := fun e h => match sPrs fs e (h ++ [.dct []]) with
  | .ok ps h2 => dspEnd h.length ps h2
  | _ => .bad
section
variable {X : Cx} {W : WX}
abbrev trsOf (X : Cx) (W : WX) (fs : List (Sx × Sx)) : List (TE × TE) := fs.map fun f => (tE (ctOf X) W f.1, tE (ctOf X) W f.2)
theorem tPrs_of : ∀ (fs : List (Sx × Sx)) (σ : L2.St) (H : Hp) (Q : List (V × V) → Hp → Prop), tX (ctOf X) (RpP (ctOf X)) W (sPrs fs) σ H Q → tPairs (trsOf X W fs) σ H Q
  | [], σ, H, Q, ⟨ρ, e, h, hs, hr, p⟩ => Po_ok p hr .nil
  | f :: r, σ, H, Q, h => tX_bnd h fun ρ H1 e h1 x v hs hr rv p => Po_bnd hs hr p fun ρ2 H2 h2 y u e2 hs2 hr2 ru p2 =>
    tPrs_of r _ _ _ (Po_bnd hs2 hr2 p2 fun ρ3 H3 h3 ps qs e3 hs3 hr3 rp p3 => Po_ok p3 hr3 (.cons (rv.mono (e2.trans e3)) (ru.mono e3) rp))
theorem sd_nil {pos : Pos} : PPs X pos [] [] (trsOf X W []) := pps_nil
theorem sd_cons {pos : Pos} {k v : Expr} {ks : List (Option Expr)} {vs : List Expr} {fk fv : Sx} {fs : List (Sx × Sx)} (hk : PE X k (tE (ctOf X) W fk)) (hv : PE X v (tE (ctOf X) W fv)) (hr : PPs X pos ks vs (trsOf X W fs)) : PPs X pos (some k :: ks) (v :: vs) (trsOf X W ((fk, fv) :: fs)) := pps_cons hk hv hr
theorem putAll_of {C : Ct} {ρ : List Addr} {H : Hp} : ∀ {ps : List (Va × Va)} {qs : List (V × V)} {acc d : List (Va × Va)} {vs : List (Key × V)}, RpP C ρ H ps qs → RpK C ρ H acc vs → putAll acc ps = some d → ∃ kvs : List (Key × V), qs = kvs.map (fun kv => (kV kv.1, kv.2)) ∧ kvs.length = ps.length ∧ RpK C ρ H d (mergeK vs kvs)
  | _, _, _, _, vs, .nil, a, e => by
    cases e
    exact ⟨[], rfl, rfl, a⟩
  | _, _, acc, d, vs, .cons (x := x) (y := y) (v := v) (u := u) r1 r2 rs, a, e => by
    unfold putAll at e
    split at e
    · rename_i k hk
      obtain ⟨kvs, e1, e2, e3⟩ := putAll_of rs (dPut_rp a hk r2) e
      refine ⟨(k, u) :: kvs, ?_, by simp [e2], e3⟩
      rw [keyA_rp hk r1, e1]
      rfl
    · cases e
theorem se_dsp {keys : List (Option Expr)} {values : List Expr} {fs : List (Sx × Sx)} {pos : Pos} (h : PPs X pos keys values (trsOf X W fs)) (hall : keys.all (·.isSome) = true := by rfl) (hl : keys.length = values.length := by rfl) (h0 : keys ≠ [] := by simp)
    (h15 : keys.length ≤ 15 := by decide) : PE X (.Dict keys values pos) (tE (ctOf X) W (sDsp fs)) := pe_of (pe_disp h hall hl h0 h15) fun σ H Q ⟨ρ, e, h, hs, hr, p⟩ q hq => by
  obtain ⟨e1, e2, e3⟩ := hr.allocD (vs := []) hq .nil
  refine tPrs_of fs _ _ _ ⟨ρ ++ [q], e, h ++ [.dct []], hs.mono e1, e2, ?_⟩
  unfold sDsp at p
  cases r : sPrs fs e (h ++ [.dct []]) with
  | ok ps h2 =>
    rw [r] at p
    intro ρ' H' qs ex hr' rp
    have p : Po (ctOf X) (Rp (ctOf X)) (fun c d H' => W c d σ H') Q ρ H (dspEnd h.length ps h2) := p
    unfold dspEnd at p
    split at p
    · rename_i hn
      split at p
      · rename_i d hd
        split at p
        · rename_i c
          obtain ⟨a, vs, ea, ha, hl', rk⟩ := hr'.dc_ hn (e3.mono ex)
          cases ea
          cases rk
          obtain ⟨kvs, k1, k2, k3⟩ := putAll_of rp .nil hd
          obtain ⟨w1, w2⟩ := hr'.writeD hn ha hl' k3
          refine ⟨hl', kvs, k1, by omega, ?_⟩
          exact p ρ' _ _ (e1.trans (ex.trans w1)) w2 (.loc ha)
        · exact p.elim
      · exact p.elim
    · exact p.elim
  | ex x h2 => rw [r] at p; exact p.elim
  | bad => rw [r] at p; exact p.elim
end
end Fw

set_option Elab.async false
set_option linter.all false
set_option maxRecDepth 100000
set_option maxHeartbeats 2000000
set_option autoImplicit false
namespace Fw
open PySem PySem.Spec L2
open PyProof.Rows hiding St
/-! ### t[lo:hi], the whole of it too -/
def kSlW : Va → Option Int → Option Int → Hs → Rs Va
  | .tup xs, lo, hi => fun h => if HT.sIx xs.length 0 lo = 0 ∧ HT.sIx xs.length xs.length hi = xs.length then .ok (.tup xs) h else .ok (.tup (cutA xs lo hi)) h
  | x, lo, hi => kSl x lo hi
def sSlW (f : Sx) (lo hi : Sm (Option Int)) : Sx := bnd f fun x => bnd lo fun l => bnd hi fun u => vl (kSlW x l u)
section
variable {X : Cx} {W : WX} {e : Expr} {lo hi : Option Expr} {fe : Sx} {fl fh : Sm (Option Int)} {pos p2 : Pos}
theorem se_slW (he : PE X e (tE (ctOf X) W fe)) (hl : PO X lo (tOx (ctOf X) W fl)) (hh : PO X hi (tOx (ctOf X) W fh)) : PE X (.Subscript e (.Slice lo hi none p2) pos) (tE (ctOf X) W (sSlW fe fl fh)) :=
  pe_of (pe_slice (SlR.or sl_list (SlR.or sl_str sl_tupA)) he hl hh) fun σ H Q h => tX_bnd h fun ρ H1 e h1 x v hs hr rv p => Po_bnd hs hr p fun ρ2 H2 h2 l l' e2 hs2 hr2 rl p2 => Po_bnd hs2 hr2 p2 fun ρ3 H3 h3 u u' e3 hs3 hr3 ru p3 => by
    subst rl ru
    have rv := rv.mono (e2.trans e3)
    cases x with
    | str x =>
      cases rv
      have p3 : Po _ _ _ _ _ _ (if x.length ≤ 16777216 then _ else _) := p3
      split at p3
      · rename_i hl
        refine .inr (.inl ⟨_, rfl, by rw [str_len, line_eq]; exact hl, ?_⟩)
        have e : cutS ⟨x.toArray⟩ l u = ⟨(cutA x l u).toArray⟩ := by unfold cutS cutA; rw [str_len]
        rw [e]
        exact Po_ok p3 hr3 (.str _)
      · exact p3.elim
    | loc n =>
      have p3 : Po _ _ _ _ _ _ (match h3[n]? with | some (.lst xs) => _ | _ => _) := p3
      split at p3
      · rename_i xs hn
        obtain ⟨a, vs, rfl, ha, hl, rl⟩ := hr3.ls_ hn rv
        exact .inl ⟨a, vs, rfl, SqL.of hl, (newL_of hr3 (cut_rel rl l u) p3).2⟩
      · exact p3.elim
    | ros xs =>
      cases rv with
      | ros hq rl => exact .inl ⟨_, _, rfl, hq.sq, (newL_of hr3 (cut_rel rl l u) p3).2⟩
    | tup xs =>
      have p3 : Po (ctOf X) (Rp (ctOf X)) _ Q ρ3 H3 (if HT.sIx xs.length 0 l = 0 ∧ HT.sIx xs.length xs.length u = xs.length then Rs.ok (Va.tup xs) h3 else .ok (.tup (cutA xs l u)) h3) := p3
      cases rv with
      | tup hq rl =>
      refine .inr (.inr ⟨_, _, rfl, hq, fun c => ?_, fun c => ?_⟩)
      · rw [← rl.length] at c
        rw [if_pos c] at p3
        exact Po_ok p3 hr3 (.tup hq rl)
      · rw [← rl.length] at c
        rw [if_neg c] at p3
        exact Po_tup hr3 (cut_rel rl l u) p3
    | _ => exact p3.elim
end
/-! ### t + u, also with an empty one -/
def kAddW (x y : Va) (h : Hs) : Rs Va := match x with
  | .tup xs => match y with
    | .tup ys => if xs.length + ys.length ≤ 16777216 then .ok (.tup (xs ++ ys)) h else .bad
    | y => kAdd (.tup xs) y h
  | x => kAdd x y h
theorem ks_addW {X : Cx} : OpK X (binaryOp .Add) kAddW := by
  obtain ⟨r, h1, h2⟩ := ks_add (X := X)
  refine ⟨_, OpR.or h1 op_catA, ?_⟩
  intro ρ H h x y v u W Q hr rx ry p
  have old : Po (ctOf X) (Rp (ctOf X)) W Q ρ H (kAdd x y h) → r v u H Q ∨ rCatA X.K v u H Q := fun p => .inl (h2 ρ H h x y v u W Q hr rx ry p)
  unfold kAddW at p
  split at p
  · rename_i xs
    split at p
    · rename_i ys
      split at p
      · rename_i c
        cases rx with
        | tup hq rl => cases ry with
          | tup hq2 rl2 =>
            refine .inr ⟨_, _, _, _, rfl, rfl, hq, hq2, by rw [← rl.length, ← rl2.length, line_eq]; exact c, fun e => ?_, fun e e' => ?_, fun e e' => ?_⟩
            · have : xs = [] := by
                have := rl.length
                rw [e] at this
                exact List.length_eq_zero_iff.mp this
              subst this
              exact Po_ok p hr (.tup hq2 rl2)
            · have : ys = [] := by
                have := rl2.length
                rw [e'] at this
                exact List.length_eq_zero_iff.mp this
              subst this
              rw [List.append_nil] at p
              exact Po_ok p hr (.tup hq rl)
            · exact Po_tup hr (rl.append rl2) p
      · exact p.elim
    · exact old p
  · exact old p
end Fw

set_option Elab.async false
set_option linter.all false
set_option maxRecDepth 100000
set_option maxHeartbeats 2000000
set_option autoImplicit false
namespace Fw
open PySem PySem.Spec L2 PyProof PyProof.Rows
/-! ### the least of a tuple of ints -/
section
variable {prog : Program} {w : World} {A : Around} {E : Value → Shared → Prop} {s : Shared} {l : Addr}
theorem min_intTup {xs : Array (Int × Tok)} {Q : Value → Shared → Prop} (hh : A.handled = none) (hl : s.heap.IsTuple l (intItems xs)) (hne : 0 < xs.size)
    (h : ∀ v h' tk, (intItems xs)[argBest (fun i j => decide (numAt xs i < numAt xs j)) (xs.size - 1)]? = some v → (∀ b o, s.heap.get? b = some o → h'.get? b = some o) → Q v { s with heap := h', toks := tk }) :
    wpAny (model prog w) A (call (.builtin "min") [.ref l]) Q E s := by
  have hlt : l < s.heap.objs.size := by obtain ⟨_, e, _⟩ := hl; exact Heap.lt_size e
  refine call_min_walk (wpAny_pyIter_tuple hl ?_)
  refine ⟨_, [_, l], [_], _, _, _, _, rfl, Walks.tuple (A := A.in1) hh _ l (Nat.ne_of_lt hlt) (intItems xs), ⟨⟨_, Heap.get?_push_size _ rfl, rfl, rfl⟩, hl.push _⟩, fun d hd => ?_, by simpa [intItems] using hne, CmpOf.ints_lt (numAt xs) (fun _ _ => intItems_at), fun v h' tk hP hk => ?_⟩
  · show d < (s.heap.push _).objs.size
    rw [Heap.size_push]
    rcases List.mem_cons.mp hd with rfl | hd
    · exact Nat.lt_succ_self _
    · rcases List.mem_cons.mp hd with rfl | hd
      · exact Nat.lt_succ_of_lt hlt
      · cases hd
  · exact h v h' tk (by simpa [intItems] using hP) fun b o e => hk b o (fun m => Nat.ne_of_lt (Heap.lt_size e) (by simpa using m)) (Heap.get?_push_of_some _ e)
theorem min_rawT {its : List Value} {ns : List Int} {Q : Value → Shared → Prop} (hh : A.handled = none) (hl : s.heap.IsTuple l its.toArray) (hi : IntsAre its ns) (hne : 0 < ns.length)
    (h : ∀ h' tk M t', (∀ b o, s.heap.get? b = some o → h'.get? b = some o) → M ∈ ns → (∀ a, a ∈ ns → M ≤ a) → Q (.int M t') { s with heap := h', toks := tk }) : wpAny (model prog w) A (call (.builtin "min") [.ref l]) Q E s := by
  obtain ⟨xs, e⟩ := hi.allInts.items
  have hn : numsOf (intItems xs).toList = ns := by rw [← e]; exact hi.numsOf
  rw [nums_intItems] at hn
  subst hn
  rw [e] at hl
  have hsz : 0 < xs.size := by simpa using hne
  refine min_intTup hh hl hsz fun v h' tk hv hk => ?_
  obtain ⟨t, rfl⟩ := intItems_at hv
  obtain ⟨h1, h2⟩ := argBest_lt (numAt xs) (xs.size - 1)
  refine h h' tk _ t hk ?_ fun a ha => ?_
  · rw [numAt_eq]; exact PySem.getD_mem (by rw [List.length_map, Array.length_toList]; omega)
  · obtain ⟨j, hj, rfl⟩ := mem_getD ha
    rw [List.length_map, Array.length_toList] at hj
    rw [← numAt_eq]; exact h2 j (by omega)
end
section
variable {X : Cx}
def rMinT (K : PySem.W.Frag) : List V → Hp → VK → Prop := fun vs H Q => ∃ (a : Addr) (ns : List Int), vs = [V.ref a] ∧ SqT K H a (ns.map V.int) ∧ 0 < ns.length ∧ ∀ m, m ∈ ns → (∀ y, y ∈ ns → m ≤ y) → Q (.int m) H
theorem cr_minT (hc : X.calm = true) : CallR X (.builtin "min") (rMinT X.K) := by
  intro pins s σ H vs us Q I r h
  obtain ⟨a, ns, rfl, hs, hne, q⟩ := h
  obtain ⟨its, rv, hl, _⟩ := I.tuple hs
  rw [Vals.ref1 r]
  exact min_rawT (I.ok.hd hc) (show s.heap.IsTuple a its.toArray from hl) rv.ints hne fun h' tk m t' hk h1 h2 => ⟨.int _, H, I.kept hk, ⟨_, rfl⟩, q m h1 h2⟩
end
def leastI : Int → List Int → Int
  | m, [] => m
  | m, x :: r => leastI (if x < m then x else m) r
def kMinW : List Va → Hs → Rs Va
  | [.tup xs] => fun h => match mapO asI xs with
    | some (n :: ns) => .ok (.int (leastI n ns)) h
    | _ => .bad
  | xs => kMin xs
theorem leastI_le : ∀ (m : Int) (ns : List Int), leastI m ns ≤ m ∧ (∀ x ∈ ns, leastI m ns ≤ x) ∧ (leastI m ns = m ∨ leastI m ns ∈ ns)
  | m, [] => ⟨Int.le_refl _, (fun x h => nomatch h), Or.inl rfl⟩
  | m, x :: r => by
    obtain ⟨h1, h2, h3⟩ := leastI_le (if x < m then x else m) r
    have hh : (if x < m then x else m) ≤ m ∧ (if x < m then x else m) ≤ x := by split <;> omega
    refine ⟨Int.le_trans h1 hh.1, fun y hy => ?_, ?_⟩
    · rcases List.mem_cons.mp hy with rfl | hy
      · exact Int.le_trans h1 hh.2
      · exact h2 y hy
    · show leastI (if x < m then x else m) r = m ∨ leastI (if x < m then x else m) r ∈ x :: r
      rcases h3 with h3 | h3
      · rw [h3]
        split
        · exact .inr (List.mem_cons_self ..)
        · exact .inl rfl
      · exact .inr (List.mem_cons_of_mem _ h3)
theorem leastI_eq {m : Int} {n : Int} {ns : List Int} (h1 : m ∈ n :: ns) (h2 : ∀ y, y ∈ n :: ns → m ≤ y) : m = leastI n ns := by
  obtain ⟨a, b, c⟩ := leastI_le n ns
  have lo : leastI n ns ≤ m := by
    rcases List.mem_cons.mp h1 with rfl | h
    · exact a
    · exact b m h
  have hi : m ≤ leastI n ns := by
    rcases c with c | c
    · rw [c]; exact h2 n (List.mem_cons_self ..)
    · exact h2 _ (List.mem_cons_of_mem _ c)
  omega
theorem cs_minW {X : Cx} (hc : X.calm = true) : CaK X (.builtin "min") kMinW := by
  refine ⟨fun vs H Q => rMinT X.K vs H Q ∨ (∃ i j, vs = [.int i, .int j] ∧ Q (.int (if j < i then j else i)) H), ?_, ?_⟩
  · intro pins s σ H vs us Q I r h
    rcases h with h | h
    · exact cr_minT hc pins s σ H vs us Q I r h
    · exact call_min2 hc pins s σ H vs us Q I r h
  · intro ρ H h xs vs W Q hr r p
    unfold kMinW at p
    split at p
    · rename_i ys
      split at p
      · rename_i n ns e
        obtain ⟨v, rfl, rv⟩ := one_arg r rfl
        cases rv with
        | tup hq rl =>
          have := ints_of rl e
          subst this
          refine .inl ⟨_, n :: ns, rfl, hq, by simp, fun m h1 h2 => ?_⟩
          rw [leastI_eq h1 h2]
          exact Po_ok p hr (.int _)
      · exact p.elim
    · unfold kMin at p
      split at p
      · have e := two_args r
        subst e
        exact .inr ⟨_, _, rfl, Po_ok p hr (.int _)⟩
      · exact p.elim
end Fw

set_option Elab.async false
set_option linter.all false
set_option maxRecDepth 100000
set_option maxHeartbeats 2000000
set_option autoImplicit false
namespace Fw
open PySem PySem.Spec L2
open PyProof.Rows hiding St
/-! ### text.strip(signs) -/
def stpC (x y : List Nat) : List Nat := (Txt.stripChars ⟨x.toArray⟩ ⟨y.toArray⟩).cps.toList
def kStrp : Va → List Va → Hs → Rs Va
  | .str x, [.str y] => fun h => if x.length ≤ 16777216 then .ok (.str (stpC x y)) h else .bad
  | _, _ => fun _ => .bad
theorem takeAll {p : Nat → Bool} : ∀ {x : List Nat}, (∀ c ∈ x, p c = true) → x.takeWhile p = x
  | [], _ => rfl
  | c :: x, h => by rw [List.takeWhile_cons, if_pos (h c (by simp)), takeAll fun d m => h d (by simp [m])]
theorem stpC_all {x y : List Nat} (h : ∀ c ∈ x, c ∈ y) : stpC x y = [] := by
  unfold stpC Txt.stripChars
  rw [PyProof.Rows.stripBy_eq]
  have e : x.takeWhile (y.toArray.contains) = x := takeAll fun c m => by simpa using h c m
  unfold stripLo stripHi Builtin.Str.strSub
  simp [e]
section
variable {X : Cx}
theorem ms_strp : MtK X "str.strip" kStrp := ⟨_, mt_stripChars, by
  intro ρ H h x xs v vs W Q hr rv rs p
  unfold kStrp at p
  split at p
  · obtain ⟨w, rfl, rw_⟩ := one_arg rs rfl
    cases rv; cases rw_
    rename_i x y
    split at p
    · rename_i c
      refine ⟨_, _, rfl, rfl, by simpa [Str.length, line_eq] using c, Po_ok p hr ?_⟩
      have e : (Txt.stripChars (⟨x.toArray⟩ : Str) ⟨y.toArray⟩) = (⟨(stpC x y).toArray⟩ : Str) := by
        unfold stpC
        simp
      rw [e]
      exact .str _
    · exact p.elim
  · exact p.elim⟩
end
end Fw

set_option Elab.async false
set_option linter.all false
set_option maxRecDepth 100000
set_option maxHeartbeats 2000000
set_option autoImplicit false
namespace Fw
open PySem PySem.Spec L2
open PyProof.Rows hiding St
/-! ### a tuple read backward -/
section
variable {prog : Program} {w : World} {A : Around} {E : Value → Shared → Prop} {s : Shared}
theorem adjust_rev (n : Nat) : Builtin.Slice.sliceAdjust none none (-1) (n : Int) = ((n : Int) - 1, -1) := rfl
theorem places_rev (n : Nat) : Builtin.Slice.slicePlaces ((n : Int) - 1) (-1) (-1) = n := by
  unfold Builtin.Slice.slicePlaces
  rw [if_neg (by decide)]
  split
  · simp
    try omega
  · simp
    omega
theorem slicePart_neg {vs : Value} {Q : Option Int → Shared → Prop} (p : IsPart vs (some (-1))) (h : Q (some (-1)) s) : wpAny (model prog w) A (Builtin.Slice.slicePartIndex vs) Q E s := HT.slicePart_ p h
theorem sliceApplied_rev {sl : Addr} {vl vu vs : Value} {n : Nat} {Q : Int × Int × Nat → Shared → Prop} (hs : s.heap.IsSliceOf sl vl vu vs) (pl : IsPart vl none) (pu : IsPart vu none) (ps : IsPart vs (some (-1)))
    (h : Q ((n : Int) - 1, -1, n) s) : wpAny (model prog w) A (Builtin.Slice.sliceApplied (.ref sl) (pure (n : Int))) Q E s := by
  obtain ⟨os, hos, hcs, hds⟩ := id hs
  unfold Builtin.Slice.sliceApplied Builtin.Slice.sliceFields
  refine wpAny_bind (wpAny_bind (wpAny_field hos hds (x := vl) rfl (wpAny_bind (wpAny_field hos hds (x := vu) rfl (wpAny_bind (wpAny_field hos hds (x := vs) rfl (wpAny_pure ?_)))))))
  refine wpAny_bind (slicePart_neg ps ?_)
  show wpAny _ _ (if ((-1 : Int) == 0) = true then _ else _) _ _ s
  rw [if_neg (by decide)]
  refine wpAny_bind (HT.slicePart_ pl (wpAny_bind (HT.slicePart_ pu (wpAny_bind (wpAny_pure ?_)))))
  show wpAny _ _ (match Builtin.Slice.sliceAdjust none none (-1) (n : Int) with | (lo, hi) => pure (lo, (-1 : Int), Builtin.Slice.slicePlaces lo hi (-1))) _ _ s
  rw [adjust_rev n]
  show wpAny _ _ (pure ((n : Int) - 1, (-1 : Int), Builtin.Slice.slicePlaces ((n : Int) - 1) (-1) (-1))) _ _ s
  rw [places_rev]
  exact wpAny_pure h
theorem fm_ext {α β : Type} {f g : α → Option β} : ∀ {l : List α}, (∀ m ∈ l, f m = g m) → l.filterMap f = l.filterMap g
  | [], _ => rfl
  | x :: l, h => by rw [List.filterMap_cons, List.filterMap_cons, h x (by simp), fm_ext fun m hm => h m (by simp [hm])]
theorem pick_rev (xs : Array Value) : ((List.range xs.size).filterMap fun (m : Nat) => xs[(((xs.size : Int) - 1) + (m : Int) * (-1)).toNat]?).toArray = xs.toList.reverse.toArray := by
  congr 1
  have e : ∀ m ∈ List.range xs.size, xs[(((xs.size : Int) - 1) + (m : Int) * (-1)).toNat]? = some (xs.toList.reverse[m]?.getD .none) := fun m hm => by
    have hm := List.mem_range.mp hm
    have e1 : (((xs.size : Int) - 1) + (m : Int) * (-1)).toNat = xs.size - 1 - m := by omega
    rw [e1, List.getElem?_reverse (by rw [Array.length_toList]; exact hm), Array.length_toList, Array.getElem?_toList]
    rw [Array.getElem?_eq_getElem (by omega)]
    rfl
  rw [fm_ext e, List.filterMap_eq_map']
  refine List.ext_getElem? fun i => ?_
  rw [List.getElem?_map]
  by_cases c : i < xs.size
  · rw [List.getElem?_range c, Option.map_some, List.getElem?_eq_getElem (by simpa using c)]
    rfl
  · rw [List.getElem?_eq_none (by simp; omega), List.getElem?_eq_none (by simp; omega)]
    rfl
theorem getItem_tuple_rev {t sl : Addr} {items : Array Value} {vl vu vs : Value} {Q : Value → Shared → Prop} (ht : IsTup s.heap t items) (hs : s.heap.IsSliceOf sl vl vu vs) (pl : IsPart vl none) (pu : IsPart vu none) (ps : IsPart vs (some (-1)))
    (h : Q (.ref s.heap.objs.size) { s with heap := s.heap.push { cls := .type "tuple", data := .seq items.toList.reverse.toArray } })
    (hsz : items.size ≤ sizeLine) : wpAny (model prog w) A (getItem (.ref t) (.ref sl)) Q E s := by
  have htake : sizeOk (.seq items.toList.reverse.toArray) := by
    show items.toList.reverse.toArray.size ≤ sizeLine
    rw [List.size_toArray, List.length_reverse, Array.length_toList]
    exact hsz
  obtain ⟨os, hos, hcs, hds⟩ := id hs
  have hTs : s.TypeIs (.ref sl) "slice" := ⟨os, hos, hcs⟩
  unfold getItem
  try with_reducible refine wpAny_holding ?_
  first | refine wpAny_bind (wpAny_pure ?_) | skip
  refine wpAny_bind (wpAny_sequenceKey ht.typeIs (by decide) ?_)
  refine wpAny_bind (wpAny_callSpecial?_slot (name := Str.ofString "__getitem__") ht.typeIs PyProof.Rows.slot_tuple_getitem
    (wpAny_call_entry PyProof.Rows.slot_tuple_getitem ht.typeIs entry_tuple_getitem ?_ (args_tuple_getitem _ _)))
  show wpAny _ _ (Builtin.Tuple.tupleItemsOf (.ref t) >>= _) _ _ s
  refine wpAny_bind (PyProof.Rows.tupleItemsOf_ ht ?_)
  refine wpAny_bind (wpAny_typeOf hTs ?_)
  rw [if_pos (by decide)]
  refine wpAny_bind (sliceApplied_rev hs pl pu ps ?_)
  have hno : ¬ ((((items.size : Int) - 1) == 0 && (-1 : Int) == 1 && items.size == items.size) = true) := by
    intro q
    rw [Bool.and_eq_true, Bool.and_eq_true] at q
    exact absurd q.1.2 (by decide)
  show wpAny _ _ (if (((items.size : Int) - 1) == 0 && (-1 : Int) == 1 && items.size == items.size) = true then _ else _) _ _ s
  rw [if_neg hno, pick_rev]
  first
    | exact wpAny_bind (m := Builtin.Tuple.tupleExact _) (wpAny_newObj_type (wpAny_pure ⟨_, rfl, wpAny_pure h⟩) htake)
    | exact wpAny_bind (m := Builtin.Tuple.tupleExact _) (wpAny_newObj_type (wpAny_bind (wpAny_pure (wpAny_pure ⟨_, rfl, wpAny_pure h⟩))) htake)
    | exact wpAny_bind (wpAny_bind (m := Builtin.Tuple.tupleExact _) (wpAny_newObj_type (wpAny_pure (wpAny_pure ⟨_, rfl, wpAny_pure h⟩)) htake))
    | exact wpAny_bind (wpAny_bind (m := Builtin.Tuple.tupleExact _) (wpAny_newObj_type (wpAny_pure ⟨_, rfl, wpAny_pure h⟩) htake))
end
def tRevT (K : PySem.W.Frag) (te : TE) : TE := fun σ H Q => te σ H fun x H1 => ∃ a xs, x = .ref a ∧ SqT K H1 a xs ∧ ∀ p, H1 p = none → Q (.ref p) (upd H1 p (.tup xs.reverse))
theorem pe_revT {X : Cx} {e : Expr} {te : TE} {k : Nat} {p1 p2 p3 pos : Pos} (he : PE X e te) : PE X (.Subscript e (.Slice none none (some (.UnaryOp .USub (.Constant (.int 1) k p1) p2)) p3) pos) (tRevT X.K te) := by
  refine ⟨fun pins s σ H Q I h => ?_⟩
  refine Subscript_ (thn (he.run pins s σ H _ I h) fun v s1 ⟨x, H1, I1, r1, q1⟩ => ?_)
  obtain ⟨a, xs, ex, hx, q⟩ := q1
  subst ex
  cases r1
  have hst : PO X (some (.UnaryOp .USub (.Constant (.int 1) k p1) p2)) (tPart (tUn (rU fun i => .int (-i)) (tC (.int 1)))) := po_some (pe_un un_neg pe_int)
  refine wpAny_Slice (thn (po_none.run pins s1 σ H1 (fun o H2 => o = none ∧ H2 = H1) I1 ⟨rfl, rfl⟩) fun vl s2 ⟨l, H2, I2, pl, el, e2⟩ => ?_)
  subst el e2
  refine thn (po_none.run pins s2 σ H2 (fun o H3 => o = none ∧ H3 = H2) I2 ⟨rfl, rfl⟩) fun vu s3 ⟨u, H3, I3, pu, eu, e3⟩ => ?_
  subst eu e3
  refine thn (hst.run pins s3 σ H3 (fun o H4 => o = some (-1) ∧ H4 = H3) I3 ⟨1, rfl, -1, rfl, rfl, rfl⟩) fun vs s4 ⟨o, H4, I4, ps, eo, e4⟩ => ?_
  subst eo e4
  have I5 : Inv X pins σ H4 { s4 with heap := s4.heap.push { cls := .type "slice", data := .fields #[vl, vu, vs] } } := I4.kept (t' := s4.toks) fun b ob q => Heap.get?_push_of_some _ q
  obtain ⟨its, r, ht, hz⟩ := I5.tuple hx
  have hlen := r.length
  show wpAny (model X.prog X.w) X.A (subscriptTail e (.Slice none none (some (.UnaryOp .USub (.Constant (.int 1) k p1) p2)) p3) (.ref a) (.ref s4.heap.objs.size)) (EP X pins σ Q) X.xe { s4 with heap := s4.heap.push { cls := .type "slice", data := .fields #[vl, vu, vs] } }
  refine tail_any (ops := [.ref a, .ref s4.heap.objs.size]) ht.typeIs (PyProof.Rows.slot_tuple_getitem.lookup) ?_ (by with_unfolding_all rfl)
  refine getItem_tuple_rev ht (Heap.IsSliceOf.new _ vl vu vs) pl pu ps ?_ (by rw [List.size_toArray]; omega)
  refine ⟨.ref _, _, I5.laid (t' := s4.toks) (o := .tup xs.reverse) (fun b ob q => Heap.get?_push_of_some _ q) (Nat.le_refl _) ?_, rfl, q _ (I5.hok.fresh (Nat.le_refl _))⟩
  exact ⟨by rw [List.length_reverse]; exact hz, _, r.reverse, IsTup.new _ _⟩
def kRevA : Va → Hs → Rs Va
  | .tup xs => fun h => .ok (.tup xs.reverse) h
  | x => kRev x
theorem se_revA {X : Cx} {W : WX} {e : Expr} {fe : Sx} {k : Nat} {p1 p2 p3 pos : Pos} (he : PE X e (tE (ctOf X) W fe)) : PE X (.Subscript e (.Slice none none (some (.UnaryOp .USub (.Constant (.int 1) k p1) p2)) p3) pos) (tE (ctOf X) W (s1 kRevA fe)) :=
  pe_of (pe_or (se_rev he) (pe_revT he)) fun σ H Q h => by
    obtain ⟨ρ, e, hh, hs, hr, p⟩ := h
    have p0 := p
    unfold s1 bnd at p
    cases q : fe e hh with
    | ok x h1 =>
      rw [q] at p
      cases x with
      | tup z =>
        refine .inr ⟨ρ, e, hh, hs, hr, ?_⟩
        rw [q]
        intro ρ' H' v ex hr' rv
        have p : Po _ _ _ _ ρ' H' (Rs.ok (Va.tup z.reverse) h1) := Po.mono ex p
        cases rv with
        | tup hq rl => exact ⟨_, _, rfl, hq, Po_tup hr' (RpL.rev rl) p⟩
      | _ =>
        refine .inl ⟨ρ, e, hh, hs, hr, ?_⟩
        unfold s1 bnd
        rw [q]
        exact p
    | ex x h1 => 
      refine .inl ⟨ρ, e, hh, hs, hr, ?_⟩
      unfold s1 bnd
      rw [q] at p ⊢
      exact p
    | bad => rw [q] at p; exact p.elim
/-! ### tuple.index, flat things -/
def rIdxT (K : PySem.W.Frag) : V → List V → Hp → VK → Prop := fun x xs H Q => ∃ (a : Addr) (ys : List V) (y : V) (j : Nat) (z : V), x = V.ref a ∧ xs = [y] ∧ SqT K H a ys ∧ flatV y = true ∧ ys.all flatV = true ∧ ys[j]? = some z ∧ eqV z y = true ∧ (∀ (m : Nat) (z' : V), m < j → ys[m]? = some z' → eqV z' y = false) ∧ Q (.int (j : Nat)) H
theorem mt_idxT {X : Cx} : MtR X "tuple.index" (rIdxT X.K) := by
  intro pins s σ H x xs v us Q I rx rxs h
  obtain ⟨p, ys, y, j, z, rfl, rfl, hq, fy, fys, hz, hzj, hno, q⟩ := h
  cases rx
  cases rxs with
  | cons ry rt =>
    rename_i uy ut
    cases rt
    obtain ⟨its, rv, pl, hlen⟩ := I.tuple hq
    obtain ⟨⟨cls, dd, dt, sl⟩, ho, hc, n, hd⟩ := pl
    simp only at hc hd
    subst hc
    subst hd
    obtain ⟨u, hu, ru⟩ := rv.get hz
    obtain ⟨hjl, hje⟩ := List.getElem?_eq_some_iff.mp hu
    have hvl := rv.length
    have hj : j < its.toArray.size := by simpa using hjl
    refine call_meets PySem.F.slot_tuple_index ⟨_, ho, rfl⟩ PySem.F.entry_tuple_index (PySem.F.args_tuple_index_2 _ _) (TI.tuple_indexAt p its.toArray n dd sl uy (eqU y) j hj ?_ ?_)
      ⟨ho, fun w hw => mem_eqAt ry fy rv fys w (by simpa using hw), ⟨.int (j : Nat), H, I.tok _, ⟨_, rfl⟩, q⟩⟩
    · have e1 : its.toArray[j] = u := by simpa using hje
      rw [e1, eqU_of ru (flat_at fys hz)]
      exact hzj
    · intro m hm hmj
      have hml : m < its.length := by simpa using hm
      have hmy : m < ys.length := by omega
      have hy' : ys[m]? = some ys[m] := List.getElem?_eq_getElem hmy
      obtain ⟨u2, hu2, ru2⟩ := rv.get hy'
      obtain ⟨_, hme⟩ := List.getElem?_eq_some_iff.mp hu2
      have e1 : its.toArray[m] = u2 := by simpa using hme
      rw [e1, eqU_of ru2 (flat_at fys hy')]
      exact hno m _ hmj hy'
def kIdxT : Va → List Va → Hs → Rs Va
  | .tup xs, [x] => fun h => if flA x = true ∧ xs.all flA = true then (match xs.findIdx? (fun z => eqA z x) with
      | some j => .ok (.int (j : Nat)) h
      | none => .bad) else .bad
  | _, _ => fun _ => .bad
theorem ms_idxT {X : Cx} : MtK X "tuple.index" kIdxT := ⟨_, mt_idxT, by
  intro ρ H h x xs v vs W Q hr rv rs p
  unfold kIdxT at p
  split at p
  · rename_i ys y
    obtain ⟨w, rfl, rw_⟩ := one_arg rs rfl
    cases rv with
    | tup hq rl =>
      split at p
      · rename_i c
        split at p
        · rename_i j hj
          rw [List.findIdx?_eq_some_iff_getElem] at hj
          obtain ⟨jl, j1, j2⟩ := hj
          obtain ⟨z, z1, z2⟩ := rpL_to rl j ys[j] (List.getElem?_eq_getElem jl)
          have fl : ∀ i (hi : i < ys.length), flA ys[i] = true := fun i hi => List.all_eq_true.mp c.2 _ (List.getElem_mem hi)
          refine ⟨_, _, w, j, z, rfl, rfl, hq, flA_V rw_ c.1, flA_all rl c.2, z1, by rw [eqA_V z2 rw_ (fl j jl) c.1]; exact j1, fun m z' hm hz => ?_, Po_ok p hr (.int _)⟩
          obtain ⟨x', x1, x2⟩ := rpL_at rl m z' hz
          obtain ⟨ml, me⟩ := List.getElem?_eq_some_iff.mp x1
          subst me
          rw [eqA_V x2 rw_ (fl m ml) c.1]
          exact Bool.eq_false_iff.mpr (j2 m hm)
        · exact p.elim
      · exact p.elim
  · exact p.elim⟩
end Fw

set_option Elab.async false
set_option linter.all false
set_option maxRecDepth 100000
set_option maxHeartbeats 2000000
set_option autoImplicit false
namespace Fw
open PySem PySem.Spec L2
open PyProof.Rows hiding St
/-! ### enumerate over a tuple -/
theorem meets_enumerate_newT (l : Addr) (items : Array Value) (n : Nat) (dd : Option Addr) (sl : Array (Option Value)) :
    Meets (Builtin.«enumerate.__new__» ⟨[.type "enumerate", .ref l], []⟩) (fun A R s =>
      s.heap.get? l = some { cls := .type "tuple", dict := dd, data := .seq items n, slots := sl } ∧
      R (.ok (.ret (.ref (s.heap.push { cls := .type "tuple_iterator", data := .fields #[.ref l, .int 0 0] }).objs.size)))
        { s with heap := (s.heap.push { cls := .type "tuple_iterator", data := .fields #[.ref l, .int 0 0] }).push { cls := .type "enumerate", data := .fields #[.none, .bool false, .ref s.heap.objs.size, rawInt 0, .none, .none] } }) :=
  .of_wp fun prog w A R s h => by
    obtain ⟨hp, g, d, tk, os⟩ := s
    obtain ⟨hl, h⟩ := h
    have hsub := sub_enumerate
    have hL : Heap.IsTuple hp l items := ⟨_, hl, rfl, n, rfl⟩
    wp_walk
    refine wpAny_stack_any fun st => wpAny_pure ?_
    split
    · rename_i c _ _ _ _ _
      cases (c == Value.type "enumerate")
      · wp_walk using wpAny_pyIter_tuple hL
        exact ⟨_, rfl, h⟩
      · wp_walk using wpAny_pyIter_tuple hL
        exact ⟨_, rfl, h⟩
    · wp_walk using wpAny_pyIter_tuple hL
      exact ⟨_, rfl, h⟩
section
variable {prog : Program} {w : World} {A : Around} {E : Value → Shared → Prop} {s : Shared}
theorem call_enumerate_tup {l : Addr} {items : Array Value} {Q : Value → Shared → Prop} (hL : s.heap.IsTuple l items)
    (h : ∀ h', IsEnum h' (s.heap.objs.size + 1) s.heap.objs.size 0 .none → h'.IsTupleIter s.heap.objs.size l 0 → h'.objs.size = s.heap.objs.size + 2 →
      (∀ b o, s.heap.get? b = some o → h'.get? b = some o) → Q (.ref (s.heap.objs.size + 1)) { s with heap := h' }) :
    wpAny (model prog w) A (call (.type "enumerate") [.ref l]) Q E s := by
  obtain ⟨⟨c, dct, dt, sl⟩, hl, hc, n, hd⟩ := hL
  replace hc : c = .type "tuple" := hc
  replace hd : dt = .seq items n := hd
  subst hc hd
  refine callType_new F.called_enumerate (by decide) (F.typeCall_enumerate_1 _) (F.newCall_enumerate_1 _) (fun obj => F.args_object_init_2 obj _) F.entry_enumerate_new
    (meets_enumerate_newT l items n dct sl) ⟨hl, ?_⟩
  have hz : (s.heap.push { cls := .type "tuple_iterator", data := .fields #[.ref l, .int 0 0] }).objs.size = s.heap.objs.size + 1 := Heap.size_push ..
  show _ ∧ _
  rw [hz]
  have he : IsEnum ((s.heap.push { cls := .type "tuple_iterator", data := .fields #[.ref l, .int 0 0] }).push
      { cls := .type "enumerate", data := .fields #[.none, .bool false, .ref s.heap.objs.size, rawInt 0, .none, .none] }) (s.heap.objs.size + 1) s.heap.objs.size 0 .none := by
    have := Heap.get?_push_size (s.heap.push { cls := .type "tuple_iterator", data := .fields #[.ref l, .int 0 0] })
      (o := { cls := .type "enumerate", data := .fields #[.none, .bool false, .ref s.heap.objs.size, rawInt 0, .none, .none] }) rfl
    rw [hz] at this; exact this
  refine ⟨⟨_, he, rfl⟩, h _ he ⟨_, Heap.get?_push_of_some _ (Heap.get?_push_size _ rfl), rfl, rfl⟩ (by rw [Heap.size_push, hz]) fun b o x => Heap.get?_push_of_some _ (Heap.get?_push_of_some _ x)⟩
end
/-- the tuple at a as it stands, the items in new pairs -/
def Iteu (K : PySem.W.Frag) (a : Addr) : It :=
  ⟨fun i H => ∃ (xs : List V) (x : V), SqT K H a xs ∧ xs[i]? = some x, fun i H v H' => ∃ T x, v = .ref T ∧ H T = none ∧ H' = upd H T (.tup [.int (i : Nat), x]) ∧ ∀ xs, SqT K H a xs → xs[i]? = some x, fun i H => ∃ xs : List V, SqT K H a xs ∧ xs.length ≤ i⟩
theorem turn_enumU {P : Program} {w : World} {K : PySem.W.Frag} {elts : List Expr} {kk : Nat} {tpos : Pos} (a e it : Addr) :
    Turn P w K (.Tuple elts kk tpos) (Iteu K a) [e, it] e (fun i h => (∃ old, IsEnum h e it ((i : Nat) : Int) old) ∧ h.IsTupleIter it a i ∧ e ≠ it) where
  mem := by simp
  obj := fun i h st b hb => by
    obtain ⟨⟨old, he⟩, ⟨o, ho, hc, hd⟩, _⟩ := st
    have e' : b = e ∨ b = it := by simpa using hb
    rcases e' with z | z
    · rw [z]; exact ⟨_, he, fun v q => nomatch q⟩
    · rw [z]; exact ⟨o, ho, fun v q => by rw [hd] at q; cases q⟩
  keep := fun i h h' st k => let ⟨⟨old, he⟩, hi, hne⟩ := st; ⟨⟨old, k e (by simp) _ he⟩, hi.at fun o q => k it (by simp) o q, hne⟩
  item := by
    intro X hP hw hK hc i pins s σ H E I hf st hg
    subst hP hw hK
    obtain ⟨⟨old, he⟩, hit, hne⟩ := st
    obtain ⟨xs, x, hq, hx⟩ := hg
    obtain ⟨its, rv, p, hz⟩ := I.tuple hq
    obtain ⟨u, hu, ru⟩ := rv.get hx
    have pt : s.heap.IsTuple a its.toArray := p
    have hel : e < s.heap.objs.size := Heap.lt_size he
    have hil : it < s.heap.objs.size := by obtain ⟨_, q, _⟩ := hit; exact Heap.lt_size q
    have hai : a ≠ it := fun z => by
      subst z
      obtain ⟨o1, a1, a2, _⟩ := pt
      obtain ⟨o2, b1, b2, _⟩ := hit
      rw [a1] at b1
      cases b1
      rw [a2] at b2
      exact absurd b2 (by decide)
    have hae : a ≠ e := fun z => by
      subst z
      obtain ⟨o1, a1, a2, _⟩ := pt
      have b1 : s.heap.get? a = some _ := he
      rw [a1] at b1
      cases b1
      have a2 : Value.type "enumerate" = Value.type "tuple" := a2
      exact absurd a2 (by decide)
    have D := Draws.tuple (prog := X.prog) (w := X.w) (A := X.A.in1) (I.ok.hd hc) it a hai its.toArray
    have hlt : i < its.toArray.size := by simpa using (List.getElem?_eq_some_iff.mp hu).1
    refine wpAny_pyNext_enum_itemD D he ⟨hit, pt⟩ hlt hne (by simp [hne, Ne.symm hae]) fun v h' tk hP ho hit' hT hsz hk => ?_
    have hv : u = v := by
      have h1 : its.toArray[i]? = some v := hP
      have h2 : its.toArray[i]? = some u := by simpa using hu
      rw [h2] at h1
      exact Option.some.inj h1
    subst hv
    refine ⟨_, rfl, wpAny_letOwnedTupleGo_enum (s := { s with heap := h', toks := tk + 1 }) ho fun h'' he' sb => ?_⟩
    have hT2 : h''.get? s.heap.objs.size = some { cls := .type "tuple", data := .seq #[.int i tk, u] } := (sb.2 _ (Nat.ne_of_gt hel)).trans hT
    have new : ObjOk X.prog X.w (upd H s.heap.objs.size (.tup [.int (i : Nat), x])) h'' s.heap.objs.size (.tup [.int (i : Nat), x]) :=
      ⟨by show 2 ≤ sizeLine; decide, [.int i tk, u], .cons ⟨_, rfl⟩ (.cons ru .nil), ⟨_, hT2, rfl, _, rfl⟩⟩
    have I1 : Inv X pins σ (upd H s.heap.objs.size (.tup [.int (i : Nat), x])) { s with heap := h'', toks := tk + 1 } :=
      I.turnedNew (ch := [e, it]) (fun b ob hb q => (sb.2 b (fun z => hb (by simp [z]))).trans (hk b ob (fun z => hb (by simp [z])) (fun z => hb (by simp [z])) q)) hf (Nat.le_refl _) new
    refine ⟨.ref s.heap.objs.size, _, I1, rfl, ⟨_, x, rfl, I.hok.fresh (Nat.le_refl _), rfl, fun ys hy => by rw [I.tuple_inj hy hq]; exact hx⟩, ⟨⟨u, ?_⟩, hit'.1.at fun o q => (sb.2 it (Ne.symm hne)).trans q, hne⟩, fun b hb => ?_⟩
    · have e1 : ((i + 1 : Nat) : Int) = (i : Int) + 1 := by omega
      rw [e1]; exact he'
    · have hb' : b < s.heap.objs.size := by
        have e' : b = e ∨ b = it := by simpa using hb
        rcases e' with z | z
        · rw [z]; exact hel
        · rw [z]; exact hil
      rw [upd_ne (Nat.ne_of_lt hb')]
      exact (hf b hb).1
  done := by
    intro X hP hw hK hc i pins s σ H E I hf st hg
    subst hP hw hK
    obtain ⟨⟨old, he⟩, hit, hne⟩ := st
    obtain ⟨xs, hq, hx⟩ := hg
    obtain ⟨its, rv, p, hz⟩ := I.tuple hq
    have pt : s.heap.IsTuple a its.toArray := p
    have hl := rv.length
    have hai : a ≠ it := fun z => by
      subst z
      obtain ⟨o1, a1, a2, _⟩ := pt
      obtain ⟨o2, b1, b2, _⟩ := hit
      rw [a1] at b1
      cases b1
      rw [a2] at b2
      exact absurd b2 (by decide)
    obtain ⟨f0, f1, f2, f3, f4, f5⟩ := hf it (by simp)
    have D : Draws X.prog X.w X.A.in1 it [it, a] 0 (fun _ _ => False) (fun _ h => h.IsTupleIter it a i ∧ h.IsTuple a its.toArray) :=
      ⟨fun _ _ st => let ⟨o, ho, _⟩ := st.1; ⟨o, ho⟩, fun _ _ _ st hk => ⟨st.1.at fun o e => hk it (by simp) o e, st.2.at fun o e => hk a (by simp) o e⟩, fun j s Q E hj => absurd hj (Nat.not_lt_zero _), fun s Q E st hE => wpAny_nextOf_tuple_end (I.ok.hd hc) st.1 st.2 (by simp; omega) hE⟩
    exact wpAny_pyNext_enum_endD D he ⟨hit, pt⟩ fun h' eb => ⟨rfl, I.turned (t' := s.toks) (fun b o hb q => eb b o hb q) f0 f1 f3 f4 f5⟩
  self := fun A i s Q E st h => let ⟨⟨_, he⟩, _⟩ := st; wpAny_pyIter_enum he h
def iEnumU (K : PySem.W.Frag) (ta : TA) : TI := fun σ H R => ta σ H fun vs H1 => ∃ a xs, vs = [.ref a] ∧ SqT K H1 a xs ∧ R (Iteu K a) H1
theorem pi_enumU {X : Cx} {e : Expr} {ta : TA} {p pos tpos : Pos} {elts : List Expr} {kk : Nat} (hg : Gl X "enumerate") (hm : X.mg "enumerate" = none) (ha : PA X [e] ta) (hs : starEach [e] X.env = [(false, eval e X.env)] := by rfl) :
    PI X (.Tuple elts kk tpos) (.Call (.Name "enumerate" p) [e] [] pos) (iEnumU X.K ta) := by
  refine ⟨fun pins s σ H R I h => ?_⟩
  refine Call_ (ld_blt I hg hm boot_enumerate (PyProof.Rows.callWith_type1 (thn (ha.run pos pins s σ H _ I h) fun us s1 ⟨vs, H1, I1, r1, q1⟩ => ?_) hs rfl))
  obtain ⟨a, xs, ex, hq, q⟩ := q1
  subst ex
  cases r1 with
  | cons r rr =>
    cases rr
    cases r
    obtain ⟨its, rv, p', hz⟩ := I1.tuple hq
    refine call_enumerate_tup (show s1.heap.IsTuple a its.toArray from p') fun h' he hit hsz hk => wpAny_pyIter_enum he ?_
    have I2 : Inv X pins σ H1 { s1 with heap := h' } := I1.kept (t' := s1.toks) hk
    refine ⟨s1.heap.objs.size + 1, [s1.heap.objs.size + 1, s1.heap.objs.size], _, _, H1, rfl, I2, turn_enumU a (s1.heap.objs.size + 1) s1.heap.objs.size, ⟨⟨.none, he⟩, hit, Nat.succ_ne_self _⟩, fun b hb => ?_, q⟩
    have e' : b = s1.heap.objs.size + 1 ∨ b = s1.heap.objs.size := by simpa using hb
    have hle : s1.heap.objs.size ≤ b := by
      rcases e' with z | z
      · rw [z]; exact Nat.le_add_right _ _
      · rw [z]; exact Nat.le_refl _
    exact I1.fpOk hle (I1.hok.fresh hle)
def enU (x : Va) (h : Hs) : Option (Src × Nat) := match x with
  | .tup xs => some (srcEV xs, xs.length)
  | x => enT x h
def sEnuX (f : Sm (List Va)) : Sit := bnd f fun xs _ h => match xs with
  | [x] => match enU x h with
    | some s => .ok s h
    | none => .bad
  | _ => .bad
theorem srcEu_of {C : Ct} {ρ : List Addr} {H : Hp} {xs : List Va} {vs : List V} {a : Addr} (hq : SqT C.K H a vs) (rl : RpL C ρ H xs vs) : SrcR C ρ H (srcEV xs) (Iteu C.K a) := by
  refine ⟨fun ρ1 H1 h1 i ex hr e => ?_, fun ρ1 H1 h1 i y ex hr e => ?_⟩
  · unfold srcEV at e
    cases q : xs[i]? with
    | none => exact ⟨vs, ex.tup _ _ hq, by rw [← rl.length]; exact List.getElem?_eq_none_iff.mp q⟩
    | some c => rw [q] at e; cases e
  · unfold srcEV at e
    cases q : xs[i]? with
    | none => rw [q] at e; cases e
    | some c =>
      rw [q] at e
      cases e
      obtain ⟨v, h1', h2'⟩ := rpL_to rl i c q
      refine ⟨⟨vs, v, ex.tup _ _ hq, h1'⟩, fun w H2 ⟨T, x, e1, e2, e3, e4⟩ => ?_⟩
      subst e1 e3
      have hx := e4 vs (ex.tup _ _ hq)
      rw [h1'] at hx
      cases hx
      have en := ext_new (C := C) (ρ := ρ1) (o := .tup [.int (i : Nat), v]) e2
      exact ⟨en, hr.tup_ e2, .tup (SqT.of upd_same) (.cons (.int _) (.cons ((h2'.mono ex).mono en) .nil))⟩
theorem si_enumX {X : Cx} {W : WX} {a : Expr} {fa : Sm (List Va)} {p pos : Pos} {elts : List Expr} {kk : Nat} {tpos : Pos} (hg : Gl X "enumerate") (hm : X.mg "enumerate" = none) (ha : PA X [a] (tAr (ctOf X) W fa)) (hs : starEach [a] X.env = [(false, eval a X.env)] := by rfl) : PI X (.Tuple elts kk tpos) (.Call (.Name "enumerate" p) [a] [] pos) (tIt (ctOf X) W (sEnuX fa)) :=
  pi_of (pi_or (pi_enumU hg hm ha hs) (si_enumT (W := W) hg hm ha hs)) fun σ H Q h => by
    obtain ⟨ρ, e, hh, hs', hr, p⟩ := h
    unfold sEnuX bnd at p
    cases q : fa e hh with
    | ok xs h1 =>
      rw [q] at p
      match xs, q, p with
      | [], q, p => exact p.elim
      | [.tup s], q, p =>
        refine .inl ⟨ρ, e, hh, hs', hr, ?_⟩
        rw [q]
        intro ρ' H' v ex hr' rv
        cases rv with
        | cons r1 r2 =>
          cases r2
          cases r1 with
          | tup hq rl => exact ⟨_, _, rfl, hq, (Po.mono ex p) ρ' H' _ .refl hr' (srcEu_of hq rl)⟩
      | [.non], q, p => exact .inr ⟨ρ, e, hh, hs', hr, by unfold sEnuT bnd; rw [q]; exact p⟩
      | [.bl _], q, p => exact .inr ⟨ρ, e, hh, hs', hr, by unfold sEnuT bnd; rw [q]; exact p⟩
      | [.int _], q, p => exact .inr ⟨ρ, e, hh, hs', hr, by unfold sEnuT bnd; rw [q]; exact p⟩
      | [.str _], q, p => exact .inr ⟨ρ, e, hh, hs', hr, by unfold sEnuT bnd; rw [q]; exact p⟩
      | [.ros _], q, p => exact .inr ⟨ρ, e, hh, hs', hr, by unfold sEnuT bnd; rw [q]; exact p⟩
      | [.loc _], q, p => exact .inr ⟨ρ, e, hh, hs', hr, by unfold sEnuT bnd; rw [q]; exact p⟩
      | [.fn _], q, p => exact .inr ⟨ρ, e, hh, hs', hr, by unfold sEnuT bnd; rw [q]; exact p⟩
      | [.ty _], q, p => exact .inr ⟨ρ, e, hh, hs', hr, by unfold sEnuT bnd; rw [q]; exact p⟩
      | [.rg _ _ _], q, p => exact .inr ⟨ρ, e, hh, hs', hr, by unfold sEnuT bnd; rw [q]; exact p⟩
      | _ :: _ :: _, q, p => exact p.elim
    | ex x h1 =>
      rw [q] at p
      refine .inl ⟨ρ, e, hh, hs', hr, ?_⟩
      rw [q]
      exact p
    | bad => rw [q] at p; exact p.elim
/-! ### a product of great numbers -/
def kMulZ : Va → Va → Hs → Rs Va
  | .int i, .int j => fun h => if i.natAbs.log2 + j.natAbs.log2 < 1000000 then .ok (.int (i * j)) h else .bad
  | _, _ => fun _ => .bad
theorem ks_mulz {X : Cx} : OpK X (binaryOp .Mult) kMulZ := ⟨_, op_mulW, vI (Cn := CMulW) (g' := fun i j => .int (i * j)) (fun _ _ _ _ => .int _) fun x y h => by
  cases x <;> cases y <;> first
    | exact .inr rfl
    | (rename_i i j
       by_cases c : i.natAbs.log2 + j.natAbs.log2 < 1000000
       · exact .inl ⟨i, j, rfl, rfl, c, if_pos c⟩
       · exact .inr (if_neg c))⟩
end Fw

set_option Elab.async false
set_option linter.all false
set_option maxRecDepth 100000
set_option maxHeartbeats 2000000
set_option autoImplicit false
namespace Fw
open PySem PySem.Spec L2
open PyProof.Rows hiding St
/-! ### a def that calls itself -/
def badF : Fn := fun _ _ => .bad
theorem defOk_bad {P : Program} {w : World} {C : Ct} {base : Heap} {k : Nat} {f : Addr} {fd : FuncData} {ps : List Str} : DefOk P w C base k f fd ps badF := by
  constructor
  intro A outer s H args us vs Q E hr hg e0 hb r ⟨hl, ρ, h, xs, rx, hh, hp⟩
  exact hp.elim
/-! ### list.pop(i) -/
def kPopA : Va → List Va → Hs → Rs Va
  | .loc n, [.int i] => fun h => match h[n]? with
    | some (.lst xs) => if 0 ≤ i ∧ i < 2 ^ 62 then match xs[i.toNat]? with
      | some y => .ok y (h.set n (.lst (xs.eraseIdx i.toNat)))
      | none => .bad
      else .bad
    | _ => .bad
  | _, _ => fun _ => .bad
theorem erase_rp {C : Ct} {ρ : List Addr} {H : Hp} : ∀ {xs : List Va} {vs : List V} (i : Nat), RpL C ρ H xs vs → RpL C ρ H (xs.eraseIdx i) (vs.eraseIdx i)
  | _, _, _, .nil => .nil
  | _, _, 0, .cons _ t => t
  | _, _, i + 1, .cons q t => .cons q (erase_rp i t)
theorem ms_popA {X : Cx} : MtK X "list.pop" kPopA := ⟨rPopAt, mt_popAt, by
  intro ρ H h x xs v vs W Q hr rv rs p
  unfold kPopA at p
  split at p
  · rename_i n i
    obtain ⟨w, rfl, rw⟩ : ∃ w, vs = [w] ∧ Rp _ _ _ (.int i) w := by
      cases rs with
      | cons r t => cases t; exact ⟨_, rfl, r⟩
    cases rw
    split at p
    · rename_i ys hn
      obtain ⟨a, us, rfl, ha, hl, rl⟩ := hr.ls_ hn rv
      split at p
      · rename_i hi
        split at p
        · rename_i y hy
          obtain ⟨w, q1, q2⟩ := rl.get hy
          obtain ⟨e1, e2⟩ := hr.write hn ha hl (erase_rp i.toNat rl)
          have len := rl.length
          have il := (List.getElem?_eq_some_iff.mp hy).1
          refine ⟨a, us, i, i.toNat, w, rfl, rfl, hl, by omega, by omega, ?_, q1, p ρ _ w e1 e2 (q2.mono e1)⟩
          unfold seqIndex?
          simp only []
          split <;> simp <;> omega
        · exact p.elim
      · exact p.elim
    · exact p.elim
  · exact p.elim⟩
/-! ### sorted, of numbers or of pairs -/
def kSrtM (xs : List Va) (h : Hs) : Rs Va := match kSrtI xs h with
  | .bad => kSrtP xs h
  | r => r
theorem cs_srtM {X : Cx} : CaK X (.builtin "sorted") kSrtM := by
  obtain ⟨r1, c1, v1⟩ := cs_srtI (X := X)
  obtain ⟨r2, c2, v2⟩ := cs_srtP (X := X)
  refine ⟨_, CallR.or c1 c2, ?_⟩
  intro ρ H h xs vs W Q hr r p
  unfold kSrtM at p
  cases e : kSrtI xs h with
  | bad => rw [e] at p; exact .inr (v2 ρ H h xs vs W Q hr r p)
  | ok x h' => rw [e] at p; exact .inl (v1 ρ H h xs vs W Q hr r (by rw [e]; exact p))
  | ex x h' => rw [e] at p; exact .inl (v1 ρ H h xs vs W Q hr r (by rw [e]; exact p))
end Fw

set_option Elab.async false
set_option linter.all false
set_option maxRecDepth 100000
set_option maxHeartbeats 2000000
set_option autoImplicit false
namespace Fw
open PySem PySem.Spec L2
open PyProof.Rows hiding St
/-! ### sorted, a list of tuples of ints, of any lengths but none empty -/
def ltT : List Int → List Int → Bool
  | [], [] => false
  | [], _ :: _ => true
  | _ :: _, [] => false
  | x :: r, y :: t => decide (x < y) || (!decide (y < x) && ltT r t)
theorem ltT_lex : ∀ as bs : List Int, PyProof.Rows.lexLt itemOrd (as.map Sum.inl) (bs.map Sum.inl) = ltT as bs
  | [], [] => rfl
  | [], _ :: _ => rfl
  | _ :: _, [] => rfl
  | a :: as, b :: bs => by
    rw [List.map_cons, List.map_cons, PyProof.Rows.lexLt, ltT, ltT_lex as bs]
    rfl
def leT (a b : List Int) : Prop := ltT b a = false
instance (a b : List Int) : Decidable (leT a b) := by unfold leT; infer_instance
theorem leT_antisymm : ∀ {a b : List Int}, leT a b → leT b a → a = b
  | [], [], _, _ => rfl
  | [], _ :: _, _, h => by simp [leT, ltT] at h
  | _ :: _, [], h, _ => by simp [leT, ltT] at h
  | a :: as, b :: bs, h, h2 => by
    simp only [leT, ltT, Bool.or_eq_false_iff, decide_eq_false_iff_not, Bool.and_eq_false_iff, Bool.not_eq_false'] at h h2
    have e : a = b := by omega
    subst e
    have : as = bs := leT_antisymm (a := as) (b := bs) (by
      rcases h.2 with w | w
      · simp at w
      · exact w) (by
      rcases h2.2 with w | w
      · simp at w
      · exact w)
    rw [this]
theorem leT_total : ∀ (a b : List Int), leT a b ∨ leT b a
  | [], [] => .inl rfl
  | [], _ :: _ => .inl rfl
  | _ :: _, [] => .inr rfl
  | a :: as, b :: bs => by
    simp only [leT, ltT, Bool.or_eq_false_iff, decide_eq_false_iff_not, Bool.and_eq_false_iff, Bool.not_eq_false', decide_eq_true_eq]
    rcases leT_total as bs with h | h <;> unfold leT at h
    · by_cases c : a ≤ b
      · exact .inl ⟨by omega, .inr h⟩
      · exact .inr ⟨by omega, .inl (by omega)⟩
    · by_cases c : b ≤ a
      · exact .inr ⟨by omega, .inr h⟩
      · exact .inl ⟨by omega, .inl (by omega)⟩
theorem leT_trans : ∀ {a b c : List Int}, leT a b → leT b c → leT a c
  | [], _, _, _, _ => by
    rename_i b c _ _
    cases c <;> rfl
  | _ :: _, [], _, h, _ => by simp [leT, ltT] at h
  | _ :: _, _ :: _, [], _, h => by simp [leT, ltT] at h
  | a :: as, b :: bs, c :: cs, h, h2 => by
    simp only [leT, ltT, Bool.or_eq_false_iff, decide_eq_false_iff_not, Bool.and_eq_false_iff, Bool.not_eq_false', decide_eq_true_eq] at h h2 ⊢
    refine ⟨by omega, ?_⟩
    by_cases e : a < c
    · exact .inl e
    · rcases h.2 with w | w
      · omega
      · rcases h2.2 with w2 | w2
        · omega
        · exact .inr (leT_trans (a := as) (b := bs) (c := cs) w w2)
def insT (x : List Int) : List (List Int) → List (List Int)
  | [] => [x]
  | y :: ys => if leT x y then x :: y :: ys else y :: insT x ys
def srtT : List (List Int) → List (List Int)
  | [] => []
  | x :: xs => insT x (srtT xs)
theorem insT_perm (x : List Int) : ∀ ys, (insT x ys).Perm (x :: ys)
  | [] => .refl _
  | y :: ys => by
    unfold insT
    split
    · exact .refl _
    · exact ((insT_perm x ys).cons y).trans (.swap x y ys)
theorem srtT_perm : ∀ xs, (srtT xs).Perm xs
  | [] => .refl _
  | x :: xs => (insT_perm x _).trans ((srtT_perm xs).cons x)
theorem insT_sorted (x : List Int) : ∀ ys : List (List Int), ys.Pairwise leT → (insT x ys).Pairwise leT
  | [], _ => .cons (by simp) .nil
  | y :: ys, h => by
    unfold insT
    split
    · rename_i c
      refine .cons (fun z hz => ?_) h
      rcases List.mem_cons.mp hz with rfl | hz
      · exact c
      · exact leT_trans c ((List.pairwise_cons.mp h).1 z hz)
    · rename_i c
      refine .cons (fun z hz => ?_) (insT_sorted x ys (List.pairwise_cons.mp h).2)
      have hz' := (insT_perm x ys).mem_iff.mp hz
      rcases List.mem_cons.mp hz' with rfl | hz'
      · exact (leT_total z y).resolve_left c
      · exact (List.pairwise_cons.mp h).1 z hz'
theorem srtT_sorted : ∀ xs : List (List Int), (srtT xs).Pairwise leT
  | [] => .nil
  | x :: xs => insT_sorted x _ (srtT_sorted xs)
theorem sortedT_one {a b : List (List Int)} (p : a.Perm b) (ha : a.Pairwise leT) (hb : b.Pairwise leT) : a = b := p.eq_of_pairwise (fun x y _ _ h1 h2 => leT_antisymm h1 h2) ha hb
/-- these values are these tuples -/
inductive Tps (K : PySem.W.Frag) (H : Hp) : List V → List (List Int) → Prop
  | nil : Tps K H [] []
  | cons {t : Addr} {is : List Int} {xs : List V} {ps : List (List Int)} : SqT K H t (is.map V.int) → is ≠ [] → Tps K H xs ps → Tps K H (.ref t :: xs) (is :: ps)
theorem Tps.mem {K : PySem.W.Frag} {H : Hp} : ∀ {xs : List V} {ps : List (List Int)}, Tps K H xs ps → ∀ x ∈ xs, ∃ t is, x = V.ref t ∧ SqT K H t (is.map V.int) ∧ is ≠ []
  | _, _, .nil, x, m => by simp at m
  | _, _, .cons h n r, x, m => by
    rcases List.mem_cons.mp m with rfl | m
    · exact ⟨_, _, rfl, h, n⟩
    · exact Tps.mem r x m
theorem Tps.key {K : PySem.W.Frag} {H : Hp} {k : V → List Int} (hk : ∀ t is, SqT K H t (is.map V.int) → k (.ref t) = is) : ∀ {xs : List V} {ps : List (List Int)}, Tps K H xs ps → ps = xs.map k
  | _, _, .nil => rfl
  | _, _, .cons h _ r => by rw [List.map_cons, hk _ _ h, ← Tps.key hk r]
theorem Tps.of_key {K : PySem.W.Frag} {H : Hp} {k : V → List Int} (hk : ∀ t is, SqT K H t (is.map V.int) → k (.ref t) = is) : ∀ {xs : List V}, (∀ x ∈ xs, ∃ t is, x = V.ref t ∧ SqT K H t (is.map V.int) ∧ is ≠ []) → Tps K H xs (xs.map k)
  | [], _ => .nil
  | x :: xs, h => by
    obtain ⟨t, is, rfl, q, n⟩ := h x List.mem_cons_self
    rw [List.map_cons, hk t is q]
    exact .cons q n (Tps.of_key hk fun y m => h y (List.mem_cons_of_mem _ m))
theorem map_int_inj : ∀ {as bs : List Int}, as.map V.int = bs.map V.int → as = bs
  | [], [], _ => rfl
  | [], _ :: _, h => by simp at h
  | _ :: _, [], h => by simp at h
  | a :: as, b :: bs, h => by
    simp only [List.map_cons, List.cons.injEq, V.int.injEq] at h
    rw [h.1, map_int_inj h.2]
theorem ti_ints {vs : List Value} {ns : List Int} (h : IntsAre vs ns) : ∀ i, tupItems (fun _ => false) i vs = some (ns.map Sum.inl) := by
  induction h with
  | nil => intro i; rfl
  | cons n t r ih =>
    intro i
    rw [tupItems, if_neg (by decide), ih]
    rfl
theorem tupsOf_ex {h : Heap} : ∀ {vs : List Value}, (∀ v ∈ vs, ∃ f, TupOf h (fun _ => false) v f) → ∃ fs, TupsOf h (fun _ => false) vs fs
  | [], _ => ⟨[], .nil⟩
  | v :: vs, q => by
    obtain ⟨f, a⟩ := q v List.mem_cons_self
    obtain ⟨fs, b⟩ := tupsOf_ex (vs := vs) fun y m => q y (List.mem_cons_of_mem _ m)
    exact ⟨f :: fs, .cons a b⟩
def rSortedTI (K : PySem.W.Frag) : List V → Hp → VK → Prop := fun vs H Q => ∃ (a : Addr) (xs : List V) (ps : List (List Int)), vs = [V.ref a] ∧ SqL K H a xs ∧ Tps K H xs ps ∧
  ∀ ys p, Tps K H ys (srtT ps) → ys.length = xs.length → H p = none → Q (.ref p) (upd H p (.lst ys))
theorem cr_sortedTI {X : Cx} : CallR X (.builtin "sorted") (rSortedTI X.K) := by
  intro pins s σ H vs us Q I r h
  obtain ⟨a, xs, ps, rfl, hs, hx, q⟩ := h
  obtain ⟨its, rv, hl, hz⟩ := I.list hs
  obtain ⟨u, rfl, ru⟩ := vals1 r
  obtain rfl : u = Value.ref a := ru
  have hm := hx.mem
  let k : V → List Int := fun x => Classical.epsilon fun is => ∃ t, x = V.ref t ∧ SqT X.K H t (is.map V.int)
  have hk : ∀ t is, SqT X.K H t (is.map V.int) → k (.ref t) = is := fun t is h => by
    have e : ∃ t', V.ref t = V.ref t' ∧ SqT X.K H t' ((k (.ref t)).map V.int) := Classical.epsilon_spec (p := fun is : List Int => ∃ t', V.ref t = V.ref t' ∧ SqT X.K H t' (is.map V.int)) ⟨is, t, rfl, h⟩
    obtain ⟨t', e1, e2⟩ := e
    cases e1
    exact map_int_inj (I.tuple_inj e2 h)
  obtain ⟨e1, e2⟩ := refs_back rv fun x m => by
    obtain ⟨t, i, e, _⟩ := hm x m
    exact ⟨t, e⟩
  have raw : ∀ v ∈ its, ∃ (f : Value) (is : List Int), TupOf s.heap (fun _ => false) v f ∧ G.tupKeyC s.heap (fun _ => false) v = some (is.map Sum.inl) ∧ k (backV v) = is := fun v hv => by
    obtain ⟨t, rfl⟩ := e2 v hv
    have hmm : V.ref t ∈ xs := by rw [e1]; exact List.mem_map.mpr ⟨_, hv, rfl⟩
    obtain ⟨t', is, e, ht, ne⟩ := hm _ hmm
    cases e
    obtain ⟨its2, r2, ⟨o, ho, hc, n, hd⟩, _⟩ := I.tuple ht
    have ri : IntsAre its2 is := r2.ints
    have kk : k (backV (Value.ref t)) = is := hk t is ht
    cases ri with
    | nil => exact absurd rfl ne
    | cons n0 t0 ri =>
      refine ⟨.int n0 t0, n0 :: _, ⟨t, o, _, n, rfl, ho, hc, hd, rfl, fun _ => ⟨_, _, rfl⟩, fun w => by cases w⟩, ?_, kk⟩
      have ic : G.isTupObj s.heap (.ref t) = true := by
        simp only [G.isTupObj, ho, hc]
        rfl
      unfold G.tupKeyC
      rw [if_pos ic]
      simp only [tupKey, ho, hd]
      exact ti_ints (.cons n0 t0 ri) 0
  obtain ⟨fs, tf⟩ := tupsOf_ex (h := s.heap) (vs := its) fun v hv => by
    obtain ⟨f, _, a, _⟩ := raw v hv
    exact ⟨f, a⟩
  refine G.sorted_tups (shape := fun _ => false) hl.isList tf (fun v hv => ?_) (by rw [← rv.length]; exact hz) fun st' a1 a2 a3 => ?_
  · obtain ⟨_, is, _, b, _⟩ := raw v hv
    exact ⟨_, b⟩
  · let out : List Value := ((arrOf st').map (·.2)).toList
    have same : ∀ p ∈ (arrOf st').toList, p.1 = p.2 ∧ p.1 ∈ its := fun p hp => by
      have := (Array.perm_iff_toList_perm.mp a1).mem_iff.mp hp
      rw [pairsOf_toList] at this
      exact mem_zip_self this
    have perm : out.Perm its := by
      have := (Array.perm_iff_toList_perm.mp a1).map Prod.snd
      rw [pairsOf_toList, List.map_snd_zip (Nat.le_refl _)] at this
      show (((arrOf st').map (·.2)).toList).Perm its
      rw [Array.toList_map]
      exact this
    have h3 : ∀ u ∈ out, ∃ a, u = Value.ref a := fun u hu => e2 u (perm.mem_iff.mp hu)
    have pb : (out.map backV).Perm xs := by rw [e1]; exact perm.map backV
    have hy : ∀ x ∈ out.map backV, ∃ t is, x = V.ref t ∧ SqT X.K H t (is.map V.int) ∧ is ≠ [] := fun x m => hm x (pb.mem_iff.mp m)
    have pk := Tps.of_key hk hy
    have so : out.Pairwise fun u v => leT (k (backV u)) (k (backV v)) := by
      have len : out.length = (pairsOf its).size := perm.length_eq.trans (pairsOf_size its).symm
      have key : ∀ i (h : i < out.length), KK (G.tupKindC s.heap fun _ => false) (arrOf st') i = (k (backV out[i])).map Sum.inl := fun i h => by
        have h' : i < (arrOf st').size := by
          have e : out.length = (arrOf st').size := by simp [out]
          omega
        have eo : out[i] = (arrOf st')[i].2 := by simp [out]
        obtain ⟨s1, s2⟩ := same (arrOf st')[i] (Array.mem_toList_iff.mpr (Array.getElem_mem h'))
        obtain ⟨_, is, _, b, c⟩ := raw _ s2
        unfold KK
        rw [Array.getElem?_eq_getElem h', eo, ← s1, c]
        show (G.tupKeyC s.heap (fun _ => false) (arrOf st')[i].1).getD [] = _
        rw [b]
        rfl
      rw [List.pairwise_iff_getElem]
      intro i j hi hj ij
      have z := a2 i j (Nat.le_of_lt ij) (by rw [← len]; exact hj)
      rw [key i hi, key j hj] at z
      have z : PyProof.Rows.lexLt itemOrd ((k (backV out[j])).map Sum.inl) ((k (backV out[i])).map Sum.inl) = false := z
      rw [ltT_lex] at z
      exact z
    have ek : (out.map backV).map k = srtT ps := by
      refine sortedT_one ?_ ?_ (srtT_sorted ps)
      · rw [hx.key hk]
        exact (pb.map k).trans (srtT_perm _).symm
      · exact List.pairwise_map.mpr (List.pairwise_map.mpr so)
    rw [ek] at pk
    obtain ⟨e, he⟩ := sortedAll_at s.heap its ((arrOf st').map (·.2))
    refine ⟨.ref (s.heap.objs.size + 1), upd H (s.heap.objs.size + 1) (.lst (out.map backV)), I.laid (t' := s.toks) (fun b o e => sortedAll_old e) (Nat.le_succ _) ⟨?_, out, e, vals_back h3, ?_⟩, rfl, q _ _ pk pb.length_eq (I.hok.fresh (Nat.le_succ _))⟩
    · rw [pb.length_eq]
      exact hz
    · rw [he]
end Fw
namespace Fw
open PySem PySem.Spec L2
open PyProof.Rows hiding St
def tupA : Va → Option (List Int)
  | .tup [] => none
  | .tup (x :: xs) => mapO asI (x :: xs)
  | _ => none
def tupV (is : List Int) : Va := .tup (is.map Va.int)
theorem asI_of {x : Va} {i : Int} (e : asI x = some i) : x = .int i := by
  unfold asI at e
  split at e
  · cases e; rfl
  · cases e
theorem intsT_of : ∀ {xs : List Va} {is : List Int}, mapO asI xs = some is → xs = is.map Va.int
  | [], _, e => by cases e; rfl
  | x :: xs, is, e => by
    unfold mapO at e
    split at e
    · rename_i y ys h1 h2
      cases e
      rw [asI_of h1, intsT_of h2]
      rfl
    · cases e
theorem vints_of {C : Ct} {ρ : List Addr} {H : Hp} : ∀ {is : List Int} {vs : List V}, RpL C ρ H (is.map Va.int) vs → vs = is.map V.int
  | [], _, .nil => rfl
  | i :: is, _, .cons r rs => by
    cases r
    rw [vints_of rs]
    rfl
theorem tps_of {C : Ct} {ρ : List Addr} {H : Hp} : ∀ {xs : List Va} {vs : List V} {ps : List (List Int)}, RpL C ρ H xs vs → mapO tupA xs = some ps → Tps C.K H vs ps
  | _, _, _, .nil, e => by cases e; exact .nil
  | _, _, _, .cons (x := x) (xs := xs) r rs, e => by
    unfold mapO at e
    split at e
    · rename_i y ys h1 h2
      cases e
      unfold tupA at h1
      split at h1
      · cases h1
      · rename_i z zs
        have e := intsT_of h1
        cases y with
        | nil => simp at e
        | cons a as =>
          cases r with
          | tup hq rl =>
            rw [e] at rl
            have e2 := vints_of rl
            rw [e2] at hq
            exact .cons hq (by simp) (tps_of rs h2)
      · cases h1
    · cases e
theorem rp_tps {C : Ct} {ρ : List Addr} {H : Hp} : ∀ {vs : List V} {ps : List (List Int)}, Tps C.K H vs ps → RpL C ρ H (ps.map tupV) vs
  | _, _, .nil => .nil
  | _, _, .cons h _ r => .cons (.tup h (rpInts _)) (rp_tps r)
def kSrtT : List Va → Hs → Rs Va := fun xs h => match xs with
  | [x] => match (lsA x h).bind (mapO tupA) with
    | some ps => newL ((srtT ps).map tupV) h
    | none => .bad
  | _ => .bad
theorem cs_srtT {X : Cx} : CaK X (.builtin "sorted") kSrtT := ⟨_, cr_sortedTI, by
  intro ρ H h xs vs W Q hr r p
  unfold kSrtT at p
  split at p
  · rename_i x
    obtain ⟨v, rfl, rv⟩ := one_arg r rfl
    cases e : lsA x h with
    | none => rw [e] at p; exact p.elim
    | some ys =>
      obtain ⟨a, us, rfl, hq, rl⟩ := lsA_of hr rv e
      rw [e] at p
      cases e2 : mapO tupA ys with
      | none => simp only [Option.bind_some, e2] at p; exact p.elim
      | some ps =>
        simp only [Option.bind_some, e2] at p
        exact ⟨a, us, ps, rfl, hq, tps_of rl e2, fun zs q pz _ hq' => (newL_of hr (rp_tps pz) p).2 q hq'⟩
  · exact p.elim⟩
/-! ### sorted, of numbers or of tuples of numbers -/
def kSrtA (xs : List Va) (h : Hs) : Rs Va := match kSrtI xs h with
  | .bad => kSrtT xs h
  | r => r
theorem cs_srtA {X : Cx} : CaK X (.builtin "sorted") kSrtA := by
  obtain ⟨r1, c1, v1⟩ := cs_srtI (X := X)
  obtain ⟨r2, c2, v2⟩ := cs_srtT (X := X)
  refine ⟨_, CallR.or c1 c2, ?_⟩
  intro ρ H h xs vs W Q hr r p
  unfold kSrtA at p
  cases e : kSrtI xs h with
  | bad => rw [e] at p; exact .inr (v2 ρ H h xs vs W Q hr r p)
  | ok x h' => rw [e] at p; exact .inl (v1 ρ H h xs vs W Q hr r (by rw [e]; exact p))
  | ex x h' => rw [e] at p; exact .inl (v1 ρ H h xs vs W Q hr r (by rw [e]; exact p))
end Fw

set_option Elab.async false
set_option linter.all false
set_option maxRecDepth 100000
set_option maxHeartbeats 2000000
set_option autoImplicit false
namespace Fw
open PySem PySem.Spec L2
open PyProof.Rows hiding St
/-! ### displays of two clauses -/
def lap (n : Nat) (s : Src) (g : Tg) (t : Sm Bool) (el : Sx) : Nat → Nat → En → Hs → Rs Unit
  | 0, i, _, h => match s i h with
    | some none => .ok () h
    | _ => .bad
  | k + 1, i, e, h => match s i h with
    | some (some x) => match g x e h with
      | .ok e' h1 => match t e' h1 with
        | .ok true h2 => match el e' h2 with
          | .ok y h3 => match kApp (.loc n) [y] h3 with
            | .ok _ h4 => lap n s g t el k (i + 1) e h4
            | _ => .bad
          | _ => .bad
        | .ok false h2 => lap n s g t el k (i + 1) e h2
        | _ => .bad
      | _ => .bad
    | _ => .bad
def lap2 (n : Nat) (s : Src) (g : Tg) (t : Sm Bool) (f1 : Sit) (g1 : Tg) (t1 : Sm Bool) (el : Sx) (own1 : List Nat) : Nat → Nat → En → Hs → Rs Unit
  | 0, i, _, h => match s i h with
    | some none => .ok () h
    | _ => .bad
  | k + 1, i, e, h => match s i h with
    | some (some x) => match g x e h with
      | .ok e' h1 => match t e' h1 with
        | .ok true h2 => match f1 e' h2 with
          | .ok s1 h3 => match lap n s1.1 g1 t1 el s1.2 0 (wipeE e' own1) h3 with
            | .ok _ h4 => lap2 n s g t f1 g1 t1 el own1 k (i + 1) e h4
            | _ => .bad
          | _ => .bad
        | .ok false h2 => lap2 n s g t f1 g1 t1 el own1 k (i + 1) e h2
        | _ => .bad
      | _ => .bad
    | _ => .bad
def lapV (n : Nat) : Rs Unit → Rs Va
  | .ok _ h => .ok (.loc n) h
  | _ => .bad
def sLc2 (f : Sit) (g : Tg) (t : Sm Bool) (f1 : Sit) (g1 : Tg) (t1 : Sm Bool) (el : Sx) (own own1 : List Nat) : Sx := bnd f fun s e h => lapV h.length (lap2 h.length s.1 g t f1 g1 t1 el own1 s.2 0 (wipeE e own) (h ++ [.lst []]))
section
variable {X : Cx} {W : WX} {f f1 : Sit} {g g1 : Tg} {t t1 : Sm Bool} {el : Sx} {own own1 : List Nat} {gg gg1 : TG} {pos : Pos} {c : Expr}
theorem wipe_tw {vs own : List Nat} {σ : L2.St} (h : ∀ i ∈ vs, i ∈ own) : L2.wipe (L2.wipe σ vs) own = L2.wipe σ own := by
  induction vs with
  | nil => rfl
  | cons v vs ih =>
    show L2.wipe ((L2.wipe σ vs).set v none) own = _
    rw [wipe_set (h v List.mem_cons_self)]
    exact ih fun i hi => h i (List.mem_cons_of_mem _ hi)
theorem tLc2_of (hg : NT (ctOf X) own gg g) (hg1 : NT (ctOf X) own1 gg1 g1) : ∀ σ H Q, tE (ctOf X) W (sLc2 f g t f1 g1 t1 el own own1) σ H Q → tLc2 (tIt (ctOf X) W f) gg (tB_ X W0 t) (tIt (ctOf X) W0 f1) gg1 (tB_ X W0 t1) (tE (ctOf X) W0 el) own own1 σ H Q := fun σ H Q h => tX_bnd h fun ρ H1 e h1 s J hs hr sr p D hD => by
  obtain ⟨e0, hr0, rl0⟩ := hr.alloc hD (xs := []) (vs := []) .nil
  generalize hn : h1.length = n at *
  have vend : ∀ {r : Rs Unit} {ρ1 : List Addr} {H2 : Hp}, Po (ctOf X) (Rp (ctOf X)) (fun c d H' => W c d σ H') Q ρ H1 (lapV n r) → ∃ h', r = .ok () h' := fun {r ρ1 H2} p => by
    cases r with
    | ok u h' => exact ⟨h', rfl⟩
    | ex _ _ => exact p.elim
    | bad => exact p.elim
  refine ⟨fun i m H => ∃ (ρ1 : List Addr) (h : Hs), Ext (ctOf X) (ρ ++ [D]) (upd H1 D (.lst [])) ρ1 H ∧ HR (ctOf X) ρ1 h H ∧ SR (ctOf X) ρ1 H (wipeE e own) (L2.wipe σ own) ∧ Po (ctOf X) (Rp (ctOf X)) (fun c d H' => W c d σ H') Q ρ H1 (lapV n (lap2 n s.1 g t f1 g1 t1 el own1 m i (wipeE e own) h)), ⟨s.2, _, _, .refl, hr0, (hs.mono e0).wipe own, p⟩, ?_⟩
  rintro i m H2 ⟨ρ2, h2, ex2, hr2, hs2, p2⟩
  cases m with
  | zero =>
    obtain ⟨h', q⟩ := vend (ρ1 := ρ2) (H2 := H2) p2
    rw [q] at p2
    unfold lap2 at q
    split at q
    · rename_i q1
      cases q
      exact .inl ⟨sr.stp ρ2 H2 h2 i (e0.trans ex2) hr2 q1, p2 ρ2 H2 (.ref D) (e0.trans ex2) hr2 (rl0.mono ex2)⟩
    · cases q
  | succ m =>
    obtain ⟨h', q⟩ := vend (ρ1 := ρ2) (H2 := H2) p2
    have p0 := p2
    rw [q] at p2
    unfold lap2 at q
    split at q
    · rename_i x q1
      obtain ⟨go, gy⟩ := sr.go ρ2 H2 h2 i x (e0.trans ex2) hr2 q1
      refine .inr ⟨go, fun H' => ∃ (ρ1 : List Addr) (h : Hs), Ext (ctOf X) (ρ ++ [D]) (upd H1 D (.lst [])) ρ1 H' ∧ HR (ctOf X) ρ1 h H' ∧ SR (ctOf X) ρ1 H' (wipeE e own) (L2.wipe σ own) ∧ Po (ctOf X) (Rp (ctOf X)) (fun c d H' => W c d σ H') Q ρ H1 (lapV n (lap2 n s.1 g t f1 g1 t1 el own1 m (i + 1) (wipeE e own) h)), fun H' w => ⟨m, Nat.lt_succ_self m, w⟩, fun v H3 y => ?_⟩
      obtain ⟨ex3, hr3, rx⟩ := gy v H3 y
      split at q
      · rename_i e' h3 q2
        refine hg ρ2 H3 _ h2 x v _ _ e' h3 (hs2.mono ex3) hr3 rx q2 fun σ' eh hs3 hw => ?_
        subst eh
        refine ⟨hw.trans (wipe_tw fun _ hi => hi), ρ2, e', h3, hs3, hr3, ?_⟩
        split at q
        · rename_i h4 q3
          rw [q3]
          intro ρ4 H4 k ex4 hr4 ek
          have ek : true = k := ek
          subst ek
          refine iteT ⟨ρ4, e', h4, hs3.mono ex4, hr4, ?_⟩
          split at q
          · rename_i s1 h5 q4
            rw [q4]
            intro ρ5 H5 J1 ex5 hr5 sr1
            have exb : Ext (ctOf X) (ρ ++ [D]) (upd H1 D (.lst [])) ρ5 H5 := ((ex2.trans ex3).trans ex4).trans ex5
            have hs5 : SR (ctOf X) ρ5 H5 (wipeE e' own1) (L2.wipe σ' own1) := ((hs3.mono ex4).mono ex5).wipe own1
            have ho5 : SR (ctOf X) ρ5 H5 (wipeE e own) (L2.wipe σ own) := ((hs2.mono ex3).mono ex4).mono ex5
            let K : Hs → Rs Unit := fun h4 => lap2 n s.1 g t f1 g1 t1 el own1 m (i + 1) (wipeE e own) h4
            have p5 : Po (ctOf X) (Rp (ctOf X)) (fun c d H' => W c d σ H') Q ρ H1 (lapV n (match lap n s1.1 g1 t1 el s1.2 0 (wipeE e' own1) h5 with | .ok _ h4 => K h4 | _ => .bad)) := by
              unfold lap2 at p0
              rw [q1] at p0
              simp only [q2, q3, q4] at p0
              exact p0
            refine ⟨fun j k H => ∃ (ρ1 : List Addr) (h : Hs), Ext (ctOf X) ρ5 H5 ρ1 H ∧ HR (ctOf X) ρ1 h H ∧ Po (ctOf X) (Rp (ctOf X)) (fun c d H' => W c d σ H') Q ρ H1 (lapV n (match lap n s1.1 g1 t1 el k j (wipeE e' own1) h with | .ok _ h4 => K h4 | _ => .bad)), ⟨s1.2, ρ5, h5, .refl, hr5, p5⟩, ?_⟩
            rintro j k H6 ⟨ρ6, h6, ex6, hr6, p6⟩
            cases k with
            | zero =>
              obtain ⟨hz, qz⟩ := vend (ρ1 := ρ6) (H2 := H6) p6
              cases q1' : s1.1 j h6 with
              | none => unfold lap at qz; rw [q1'] at qz; cases qz
              | some o =>
                cases o with
                | some x => unfold lap at qz; rw [q1'] at qz; cases qz
                | none =>
                  unfold lap at p6
                  rw [q1'] at p6
                  exact .inl ⟨sr1.stp ρ6 H6 h6 j ex6 hr6 q1', ρ6, h6, exb.trans ex6, hr6, ho5.mono ex6, p6⟩
            | succ k =>
              obtain ⟨hz, qz⟩ := vend (ρ1 := ρ6) (H2 := H6) p6
              cases q1' : s1.1 j h6 with
              | none => unfold lap at qz; rw [q1'] at qz; cases qz
              | some o =>
                cases o with
                | none => unfold lap at qz; rw [q1'] at qz; cases qz
                | some x1 =>
                  obtain ⟨go1, gy1⟩ := sr1.go ρ6 H6 h6 j x1 ex6 hr6 q1'
                  refine .inr ⟨go1, fun H' => ∃ (ρ1 : List Addr) (h : Hs), Ext (ctOf X) ρ5 H5 ρ1 H' ∧ HR (ctOf X) ρ1 h H' ∧ Po (ctOf X) (Rp (ctOf X)) (fun c d H' => W c d σ H') Q ρ H1 (lapV n (match lap n s1.1 g1 t1 el k (j + 1) (wipeE e' own1) h with | .ok _ h4 => K h4 | _ => .bad)), fun H' w => ⟨k, Nat.lt_succ_self k, w⟩, fun v1 H7 y1 => ?_⟩
                  obtain ⟨ex7, hr7, rx1⟩ := gy1 v1 H7 y1
                  cases q2' : g1 x1 (wipeE e' own1) h6 with
                  | ex _ _ => unfold lap at qz; simp only [q1', q2'] at qz; cases qz
                  | bad => unfold lap at qz; simp only [q1', q2'] at qz; cases qz
                  | ok e1 h7 =>
                    refine hg1 ρ6 H7 _ h6 x1 v1 _ _ e1 h7 ((hs5.mono ex6).mono ex7) hr7 rx1 q2' fun σ3 eh hs8 hw1 => ?_
                    subst eh
                    refine ⟨hw1.trans (wipe_tw fun _ hi => hi), ρ6, e1, h7, hs8, hr7, ?_⟩
                    cases q3' : t1 e1 h7 with
                    | ex _ _ => unfold lap at qz; simp only [q1', q2', q3'] at qz; cases qz
                    | bad => unfold lap at qz; simp only [q1', q2', q3'] at qz; cases qz
                    | ok b h8 =>
                      intro ρ8 H8 b' ex8 hr8 eb
                      have eb : b = b' := eb
                      subst eb
                      cases b with
                      | false =>
                        unfold lap at p6
                        simp only [q1', q2', q3'] at p6
                        exact iteF ⟨ρ8, h8, (ex6.trans ex7).trans ex8, hr8, p6⟩
                      | true =>
                        refine iteT ⟨ρ8, e1, h8, hs8.mono ex8, hr8, ?_⟩
                        cases q4' : el e1 h8 with
                        | ex _ _ => unfold lap at qz; simp only [q1', q2', q3', q4'] at qz; cases qz
                        | bad => unfold lap at qz; simp only [q1', q2', q3', q4'] at qz; cases qz
                        | ok y h9 =>
                          intro ρ9 H9 w ex9 hr9 rw_
                          have exD : Ext (ctOf X) (ρ ++ [D]) (upd H1 D (.lst [])) ρ9 H9 := ((((exb.trans ex6).trans ex7).trans ex8).trans ex9)
                          unfold lap at p6 qz
                          simp only [q1', q2', q3', q4'] at p6 qz
                          cases qn : h9[n]? with
                          | none => simp only [kApp, qn] at qz; cases qz
                          | some ob =>
                            cases ob with
                            | dct _ => simp only [kApp, qn] at qz; cases qz
                            | lst ys =>
                              by_cases cl : ys.length < 16777216
                              · simp only [kApp, qn, if_pos cl] at p6
                                obtain ⟨a, us, ea, ha, hl, rl⟩ := hr9.ls_ qn (rl0.mono exD)
                                obtain rfl : D = a := by injection ea
                                obtain ⟨w1, w2⟩ := hr9.write qn ha hl (rl.append (.cons rw_ .nil))
                                exact ⟨us, hl, by rw [← rl.length, line_eq]; exact cl, ρ9, _, (((ex6.trans ex7).trans ex8).trans ex9).trans w1, w2, p6⟩
                              · simp only [kApp, qn, if_neg cl] at qz; cases qz
          · cases q
        · rename_i h4 q3
          rw [q3]
          intro ρ4 H4 k ex4 hr4 ek
          have ek : false = k := ek
          subst ek
          refine iteF ⟨ρ4, h4, (ex2.trans ex3).trans ex4, hr4, (hs2.mono ex3).mono ex4, ?_⟩
          unfold lap2 at p0
          rw [q1] at p0
          simp only [q2, q3] at p0
          exact p0
        · cases q
      · cases q
    · cases q
end
end Fw
namespace Fw
open PySem PySem.Spec L2
open PyProof.Rows hiding St
section
variable {X : Cx} {W : WX} {f f1 : Sit} {g g1 : Tg} {t t1 : Sm Bool} {el : Sx} {own own1 : List Nat} {gg gg1 : TG} {pos : Pos} {c : Expr}
theorem se_lc2 {elt tg iter tg1 iter1 : Expr} {ifs ifs1 : List Expr} {scope : Scope} {ow : List (Str × Nat)} (hc : X.calm = true) (hN : X.N.Nodup) (hi : PI X tg iter (tIt (ctOf X) W f)) (ok : BlkOk X.N X.env.scope scope ow) (hg : NT (ctOf X) own gg g) (hg1 : NT (ctOf X) own1 gg1 g1)
    (hp : ∀ (s : Shared) (H : Hp) (C : Addr) (cl : List (Str × Addr)) (fp : List Addr), PG (X.blk s H scope (compEnvC scope cl C X.env) fp) tg gg) (ht : ∀ (s : Shared) (H : Hp) (C : Addr) (cl : List (Str × Addr)) (fp : List Addr), PTs (X.blk s H scope (compEnvC scope cl C X.env) fp) ifs (tB_ X W0 t))
    (hi1 : ∀ (s : Shared) (H : Hp) (C : Addr) (cl : List (Str × Addr)) (fp : List Addr), PI (X.blk s H scope (compEnvC scope cl C X.env) fp) tg1 iter1 (tIt (ctOf X) W0 f1))
    (hp1 : ∀ (s : Shared) (H : Hp) (C : Addr) (cl : List (Str × Addr)) (fp : List Addr), PG (X.blk s H scope (compEnvC scope cl C X.env) fp) tg1 gg1) (ht1 : ∀ (s : Shared) (H : Hp) (C : Addr) (cl : List (Str × Addr)) (fp : List Addr), PTs (X.blk s H scope (compEnvC scope cl C X.env) fp) ifs1 (tB_ X W0 t1))
    (he : ∀ (s : Shared) (H : Hp) (C : Addr) (cl : List (Str × Addr)) (fp : List Addr), PE (X.blk s H scope (compEnvC scope cl C X.env) fp) elt (tE (ctOf X) W0 el)) (hs : ∀ x, foldedSetIterable iter X.env x = pure x := by intro _; rfl) (hs1 : ∀ env x, foldedSetIterable iter1 env x = pure x := by intro _ _; rfl) (ho : ow.map (·.2) = own := by rfl) (hv : ∀ i ∈ own1, i ∈ own := by decide) :
    PE X (.ListComp elt [⟨tg, iter, ifs, 0⟩, ⟨tg1, iter1, ifs1, 0⟩] scope pos) (tE (ctOf X) W (sLc2 f g t f1 g1 t1 el own own1)) := by
  subst ho
  exact pe_of (pe_lc2 hc hN hi ok hv hp ht hi1 hp1 ht1 he hs hs1) (tLc2_of hg hg1)
theorem sp_setLc2 (i : Nat) {y : Str} {py spos : Pos} {elt tg iter tg1 iter1 : Expr} {ifs ifs1 : List Expr} {scope : Scope} {ow : List (Str × Nat)} (hc : X.calm = true) (hN : X.N.Nodup) (hy : X.N[i]? = some y) (hyl : X.env.scope.names.lookup y = some .local) (hsw : swapsWith (.ListComp elt [⟨tg, iter, ifs, 0⟩, ⟨tg1, iter1, ifs1, 0⟩] scope pos) (some (.Name y py)) spos.line X.env = pure true)
    (hi : PI X tg iter (tIt (ctOf X) W f)) (ok : BlkOk X.N X.env.scope scope ow) (hg : NT (ctOf X) own gg g) (hg1 : NT (ctOf X) own1 gg1 g1)
    (hp : ∀ (s : Shared) (H : Hp) (C : Addr) (cl : List (Str × Addr)) (fp : List Addr), PG (X.blk s H scope (compEnvC scope cl C X.env) fp) tg gg) (ht : ∀ (s : Shared) (H : Hp) (C : Addr) (cl : List (Str × Addr)) (fp : List Addr), PTs (X.blk s H scope (compEnvC scope cl C X.env) fp) ifs (tB_ X W0 t))
    (hi1 : ∀ (s : Shared) (H : Hp) (C : Addr) (cl : List (Str × Addr)) (fp : List Addr), PI (X.blk s H scope (compEnvC scope cl C X.env) fp) tg1 iter1 (tIt (ctOf X) W0 f1))
    (hp1 : ∀ (s : Shared) (H : Hp) (C : Addr) (cl : List (Str × Addr)) (fp : List Addr), PG (X.blk s H scope (compEnvC scope cl C X.env) fp) tg1 gg1) (ht1 : ∀ (s : Shared) (H : Hp) (C : Addr) (cl : List (Str × Addr)) (fp : List Addr), PTs (X.blk s H scope (compEnvC scope cl C X.env) fp) ifs1 (tB_ X W0 t1))
    (he : ∀ (s : Shared) (H : Hp) (C : Addr) (cl : List (Str × Addr)) (fp : List Addr), PE (X.blk s H scope (compEnvC scope cl C X.env) fp) elt (tE (ctOf X) W0 el)) (hs : ∀ x, foldedSetIterable iter X.env x = pure x := by intro _; rfl) (hs1 : ∀ env x, foldedSetIterable iter1 env x = pure x := by intro _ _; rfl) (ho : ow.map (·.2) = own := by rfl) (hv : ∀ i ∈ own1, i ∈ own := by decide) :
    PS X (.Assign [.Name y py] (.ListComp elt [⟨tg, iter, ifs, 0⟩, ⟨tg1, iter1, ifs1, 0⟩] scope pos) spos) (tS_ X W (sSet i (sLc2 f g t f1 g1 t1 el own own1))) := by
  subst ho
  refine ps_of (ps_setLc2 hc hN hy hyl hsw hi ok hv hp ht hi1 hp1 ht1 he hs hs1) fun D σ H h => ?_
  refine tLc2_of hg hg1 σ H _ ?_
  exact tSt_bnS h fun ρ H1 e h1 x v hs hr rv p => p ρ H1 _ .refl hr (hs.set i rv)
end
end Fw

set_option Elab.async false
set_option linter.all false
set_option maxRecDepth 100000
set_option maxHeartbeats 2000000
set_option autoImplicit false
namespace Fw
open PySem PySem.Spec L2
open PyProof.Rows hiding St
/-! ### the least and the greatest of a list of numbers -/
def greatI (m : Int) (ns : List Int) : Int := -(leastI (-m) (ns.map fun x => -x))
theorem greatI_eq {m : Int} {n : Int} {ns : List Int} (h1 : m ∈ n :: ns) (h2 : ∀ y, y ∈ n :: ns → y ≤ m) : m = greatI n ns := by
  have := leastI_eq (m := -m) (n := -n) (ns := ns.map fun x => -x) (by
    rw [show (-n :: ns.map fun x => -x) = (n :: ns).map fun x => -x from rfl]
    exact List.mem_map.mpr ⟨m, h1, rfl⟩) (by
    intro y hy
    rw [show (-n :: ns.map fun x => -x) = (n :: ns).map fun x => -x from rfl] at hy
    obtain ⟨z, hz, rfl⟩ := List.mem_map.mp hy
    have := h2 z hz
    omega)
  unfold greatI
  omega
def kMinL : List Va → Hs → Rs Va
  | [.loc n] => fun h => match (lsA (.loc n) h).bind (mapO asI) with
    | some (n :: ns) => .ok (.int (leastI n ns)) h
    | _ => .bad
  | xs => kMinW xs
def kMaxL : List Va → Hs → Rs Va
  | [.loc n] => fun h => match (lsA (.loc n) h).bind (mapO asI) with
    | some (n :: ns) => .ok (.int (greatI n ns)) h
    | _ => .bad
  | xs => kMax xs
theorem lsI_of {C : Ct} {ρ : List Addr} {H : Hp} {h : Hs} {n : Nat} {v : V} {is : List Int} (hr : HR C ρ h H) (rv : Rp C ρ H (.loc n) v) (e : (lsA (.loc n) h).bind (mapO asI) = some is) : ∃ a, v = .ref a ∧ SqL C.K H a (is.map V.int) := by
  cases e1 : lsA (.loc n) h with
  | none => rw [e1] at e; cases e
  | some ys =>
    rw [e1] at e
    obtain ⟨a, us, rfl, hq, rl⟩ := lsA_of hr rv e1
    have e2 := intsT_of (show mapO asI ys = some is from e)
    subst e2
    have e3 := vints_of rl
    subst e3
    exact ⟨a, rfl, hq⟩
theorem cs_minL {X : Cx} (hc : X.calm = true) : CaK X (.builtin "min") kMinL := by
  obtain ⟨r2, c2, v2⟩ := cs_minW (X := X) hc
  refine ⟨_, CallR.or (cr_min hc) c2, ?_⟩
  intro ρ H h xs vs W Q hr r p
  unfold kMinL at p
  split at p
  · split at p
    · rename_i n ns e
      obtain ⟨v, rfl, rv⟩ := one_arg r rfl
      obtain ⟨a, rfl, hq⟩ := lsI_of hr rv e
      refine .inl ⟨a, _, rfl, hq, by simp, fun m h1 h2 => ?_⟩
      rw [leastI_eq h1 h2]
      exact Po_ok p hr (.int _)
    · exact p.elim
  · exact .inr (v2 ρ H h _ vs W Q hr r p)
theorem cs_maxL {X : Cx} (hc : X.calm = true) : CaK X (.builtin "max") kMaxL := by
  obtain ⟨r2, c2, v2⟩ := cs_max (X := X) hc
  refine ⟨_, CallR.or (cr_max hc) c2, ?_⟩
  intro ρ H h xs vs W Q hr r p
  unfold kMaxL at p
  split at p
  · split at p
    · rename_i n ns e
      obtain ⟨v, rfl, rv⟩ := one_arg r rfl
      obtain ⟨a, rfl, hq⟩ := lsI_of hr rv e
      refine .inl ⟨a, _, rfl, hq, by simp, fun m h1 h2 => ?_⟩
      rw [greatI_eq h1 h2]
      exact Po_ok p hr (.int _)
    · exact p.elim
  · exact .inr (v2 ρ H h _ vs W Q hr r p)
end Fw

set_option Elab.async false
set_option linter.all false
set_option maxRecDepth 100000
set_option maxHeartbeats 2000000
set_option autoImplicit false
namespace Fw
open PySem PySem.Spec L2
open PyProof.Rows hiding St
/-! ### list(range(i, j, c)) -/
def rgCV (i c : Int) (n : Nat) : List V := (List.range n).map fun k => V.int (i + (k : Nat) * c)
def rgCA (i c : Int) (n : Nat) : List Va := (List.range n).map fun k => Va.int (i + (k : Nat) * c)
theorem vals_rgC {i c : Int} {n : Nat} {acc : Array Value} (h : ItemsOf (fun k v => ∃ t, v = .int (i + k * c) t) acc n) : Vals (rgCV i c n) acc.toList := by
  have e : acc.toList.length = n := by rw [Array.length_toList]; exact h.1
  unfold rgCV
  rw [← e]
  refine vals_of_get acc.toList _ fun j u hj => ?_
  obtain ⟨t, rfl⟩ := h.2 j u (by rw [← hj, Array.getElem?_toList])
  exact ⟨t, rfl⟩
def tLstRg3 (ta : TA) : TE := fun σ H Q => ta σ H fun vs H1 => ∃ (i j c : Int) (n : Nat), vs = [.int i, .int j, .int c] ∧ RgC i j c n ∧ n ≤ 2 ^ 24 ∧ ∀ q, H1 q = none → Q (.ref q) (upd H1 q (.lst (rgCV i c n)))
section
variable {X : Cx} {W : WX} {a b c : Expr} {ta : TA} {fa : Sm (List Va)} {p pos p' pos' : Pos}
theorem pe_listRg3 (hc : X.calm = true) (hl : Gl X "list") (hml : X.mg "list" = none) (hg : Gl X "range") (hm : X.mg "range" = none) (ha : PA X [a, b, c] ta)
    (hs : starEach [a, b, c] X.env = (false, eval a X.env) :: starEach [b, c] X.env := by rfl) (hpl : (backTo pos' (starEach [b, c] X.env)).any (·.1) = false := by rfl)
    (nr : starEach [.Call (.Name "range" p') [a, b, c] [] pos'] X.env = (false, eval (.Call (.Name "range" p') [a, b, c] [] pos') X.env) :: starEach [] X.env := by rfl) :
    PE X (.Call (.Name "list" p) [.Call (.Name "range" p') [a, b, c] [] pos'] [] pos) (tLstRg3 ta) := by
  refine ⟨fun pins s σ H Q I h => ?_⟩
  have rg : wpAny (model X.prog X.w) X.A (eval (.Call (.Name "range" p') [a, b, c] [] pos') X.env) (fun x s' => ∃ r i j k t u v n H', x = .ref r ∧ IsRange s'.heap r i j k t u v ∧ Inv X pins σ H' s' ∧ RgC i j k n ∧ n ≤ 2 ^ 24 ∧ ∀ q, H' q = none → Q (.ref q) (upd H' q (.lst (rgCV i k n)))) X.xe s := by
    refine Call_ (ld_blt I hg hm boot_range (PyProof.Rows.callWith_type1 (thn (ha.run pos' pins s σ H _ I h) fun us s1 ⟨vs, H1, I1, r1, q1⟩ => ?_) hs hpl))
    obtain ⟨i, j, k, n, e, rc, nl, q⟩ := q1
    obtain ⟨c0, c1, c2, c3⟩ := rc
    subst e
    cases r1 with
    | cons r rr =>
      cases rr with
      | cons r' rr =>
        cases rr with
        | cons r'' rr =>
          cases rr
          obtain ⟨t, rfl⟩ := r
          obtain ⟨t', rfl⟩ := r'
          obtain ⟨t'', rfl⟩ := r''
          refine call_range_3 c0 ?_ (.inl (PyProof.noPylong_small c1))
          exact ⟨_, i, j, k, _, _, _, n, H1, rfl, IsRange.new _ _ _ _ _ _ _, I1.kept fun b u e => Heap.get?_push_of_some _ e, ⟨c0, c1, c2, c3⟩, nl, q⟩
  refine Call_ (ld_blt I hl hml boot_list (PyProof.Rows.callWith_type1 (args_cons (thn rg fun x s1 ⟨r, i, j, k, t, u, v, n, H1, ex, hr, I1, ok, nl, q⟩ => args_nil ?_) nr) nr))
  subst ex
  obtain ⟨c0, c1, c2, c3⟩ := ok
  refine call_list_range (n := n) (I1.ok.hd hc) hr c2 c3 nl fun h' tk acc c' hk e' hi => ?_
  refine ⟨.ref s1.heap.objs.size, upd H1 s1.heap.objs.size (.lst (rgCV i k n)), I1.laid hk (Nat.le_refl _) (show ObjOk X.prog X.w _ _ _ (.lst (rgCV i k n)) from ⟨?_, acc.toList, c', vals_rgC hi, ?_⟩), rfl, q _ (I1.hok.fresh (Nat.le_refl _))⟩
  · unfold rgCV
    rw [List.length_map, List.length_range, sizeLine_eq]; omega
  · rw [Array.toArray_toList]; exact e'
def sLstRg3 (f : Sm (List Va)) : Sx := bnd f fun xs _ h => match xs with
  | [.int i, .int j, .int c] => if (c ≠ 0 ∧ c.natAbs < 1073741824) ∧ Builtin.Range.small i j c = true ∧ 0 ≤ Builtin.Range.rangeSize i j c ∧ Builtin.Range.rangeSize i j c ≤ 16777216 then newL (rgCA i c (Builtin.Range.rangeSize i j c).toNat) h else .bad
  | _ => .bad
theorem se_lstRg3 (hc : X.calm = true) (hl : Gl X "list") (hml : X.mg "list" = none) (hg : Gl X "range") (hm : X.mg "range" = none) (ha : PA X [a, b, c] (tAr (ctOf X) W fa))
    (hs : starEach [a, b, c] X.env = (false, eval a X.env) :: starEach [b, c] X.env := by rfl) (hpl : (backTo pos' (starEach [b, c] X.env)).any (·.1) = false := by rfl)
    (nr : starEach [.Call (.Name "range" p') [a, b, c] [] pos'] X.env = (false, eval (.Call (.Name "range" p') [a, b, c] [] pos') X.env) :: starEach [] X.env := by rfl) :
    PE X (.Call (.Name "list" p) [.Call (.Name "range" p') [a, b, c] [] pos'] [] pos) (tE (ctOf X) W (sLstRg3 fa)) :=
  pe_of (pe_listRg3 hc hl hml hg hm ha hs hpl nr) fun σ H Q h => tX_bnd h fun ρ H1 e h1 xs vs hs hr rv p => by
    split at p
    · split at p
      · rename_i i j c q
        cases rv with
        | cons r1 r2 => cases r1; cases r2 with
          | cons r2 r3 => cases r2; cases r3 with
            | cons r3 r4 =>
              cases r3; cases r4
              refine ⟨_, _, _, _, rfl, ⟨q.1.1, q.1.2, q.2.1, (Int.toNat_of_nonneg q.2.2.1).symm⟩, ?_, (newL_of hr (rp_rg (f := fun k => i + (k : Nat) * c) _) p).2⟩
              have := q.2.2.2
              omega
      · exact p.elim
    · exact p.elim
end
end Fw

set_option Elab.async false
set_option linter.all false
set_option maxRecDepth 100000
set_option maxHeartbeats 2000000
set_option autoImplicit false
namespace Fw
open PySem PySem.Spec L2 PyProof PyProof.Rows
/-! ### the greatest of a tuple of ints -/
section
variable {prog : Program} {w : World} {A : Around} {E : Value → Shared → Prop} {s : Shared} {l : Addr}
theorem max_intTup {xs : Array (Int × Tok)} {Q : Value → Shared → Prop} (hh : A.handled = none) (hl : s.heap.IsTuple l (intItems xs)) (hne : 0 < xs.size)
    (h : ∀ v h' tk, (intItems xs)[argBest (fun i j => decide (numAt xs i > numAt xs j)) (xs.size - 1)]? = some v → (∀ b o, s.heap.get? b = some o → h'.get? b = some o) → Q v { s with heap := h', toks := tk }) :
    wpAny (model prog w) A (call (.builtin "max") [.ref l]) Q E s := by
  have hlt : l < s.heap.objs.size := by obtain ⟨_, e, _⟩ := hl; exact Heap.lt_size e
  refine call_max_walk (wpAny_pyIter_tuple hl ?_)
  refine ⟨_, [_, l], [_], _, _, _, _, rfl, Walks.tuple (A := A.in1) hh _ l (Nat.ne_of_lt hlt) (intItems xs), ⟨⟨_, Heap.get?_push_size _ rfl, rfl, rfl⟩, hl.push _⟩, fun d hd => ?_, by simpa [intItems] using hne, CmpOf.ints_gt (numAt xs) (fun _ _ => intItems_at), fun v h' tk hP hk => ?_⟩
  · show d < (s.heap.push _).objs.size
    rw [Heap.size_push]
    rcases List.mem_cons.mp hd with rfl | hd
    · exact Nat.lt_succ_self _
    · rcases List.mem_cons.mp hd with rfl | hd
      · exact Nat.lt_succ_of_lt hlt
      · cases hd
  · exact h v h' tk (by simpa [intItems] using hP) fun b o e => hk b o (fun m => Nat.ne_of_lt (Heap.lt_size e) (by simpa using m)) (Heap.get?_push_of_some _ e)
theorem max_rawT {its : List Value} {ns : List Int} {Q : Value → Shared → Prop} (hh : A.handled = none) (hl : s.heap.IsTuple l its.toArray) (hi : IntsAre its ns) (hne : 0 < ns.length)
    (h : ∀ h' tk M t', (∀ b o, s.heap.get? b = some o → h'.get? b = some o) → M ∈ ns → (∀ a, a ∈ ns → a ≤ M) → Q (.int M t') { s with heap := h', toks := tk }) : wpAny (model prog w) A (call (.builtin "max") [.ref l]) Q E s := by
  obtain ⟨xs, e⟩ := hi.allInts.items
  have hn : numsOf (intItems xs).toList = ns := by rw [← e]; exact hi.numsOf
  rw [nums_intItems] at hn
  subst hn
  rw [e] at hl
  have hsz : 0 < xs.size := by simpa using hne
  refine max_intTup hh hl hsz fun v h' tk hv hk => ?_
  obtain ⟨t, rfl⟩ := intItems_at hv
  obtain ⟨h1, h2⟩ := argBest_gt (numAt xs) (xs.size - 1)
  refine h h' tk _ t hk ?_ fun a ha => ?_
  · rw [numAt_eq]; exact PySem.getD_mem (by rw [List.length_map, Array.length_toList]; omega)
  · obtain ⟨j, hj, rfl⟩ := mem_getD ha
    rw [List.length_map, Array.length_toList] at hj
    rw [← numAt_eq]; exact h2 j (by omega)
end
section
variable {X : Cx}
def rMaxT (K : PySem.W.Frag) : List V → Hp → VK → Prop := fun vs H Q => ∃ (a : Addr) (ns : List Int), vs = [V.ref a] ∧ SqT K H a (ns.map V.int) ∧ 0 < ns.length ∧ ∀ m, m ∈ ns → (∀ y, y ∈ ns → y ≤ m) → Q (.int m) H
theorem cr_maxT (hc : X.calm = true) : CallR X (.builtin "max") (rMaxT X.K) := by
  intro pins s σ H vs us Q I r h
  obtain ⟨a, ns, rfl, hs, hne, q⟩ := h
  obtain ⟨its, rv, hl, _⟩ := I.tuple hs
  rw [Vals.ref1 r]
  exact max_rawT (I.ok.hd hc) (show s.heap.IsTuple a its.toArray from hl) rv.ints hne fun h' tk m t' hk h1 h2 => ⟨.int _, H, I.kept hk, ⟨_, rfl⟩, q m h1 h2⟩
end
def kMaxT : List Va → Hs → Rs Va
  | [.tup xs] => fun h => match mapO asI xs with
    | some (n :: ns) => .ok (.int (greatI n ns)) h
    | _ => .bad
  | xs => kMaxL xs
theorem cs_maxT {X : Cx} (hc : X.calm = true) : CaK X (.builtin "max") kMaxT := by
  obtain ⟨r2, c2, v2⟩ := cs_maxL (X := X) hc
  refine ⟨_, CallR.or (cr_maxT hc) c2, ?_⟩
  intro ρ H h xs vs W Q hr r p
  unfold kMaxT at p
  split at p
  · split at p
    · rename_i n ns e
      obtain ⟨v, rfl, rv⟩ := one_arg r rfl
      cases rv with
      | tup hq rl =>
        have := ints_of rl e
        subst this
        refine .inl ⟨_, n :: ns, rfl, hq, by simp, fun m h1 h2 => ?_⟩
        rw [greatI_eq h1 h2]
        exact Po_ok p hr (.int _)
    · exact p.elim
  · exact .inr (v2 ρ H h _ vs W Q hr r p)
end Fw

set_option Elab.async false
set_option linter.all false
set_option maxRecDepth 100000
set_option maxHeartbeats 2000000
set_option autoImplicit false
namespace Fw
open PySem PySem.Spec L2
open PyProof.Rows hiding St
/-! ### range objects kept in a name -/
section
variable {X : Cx}
/-- a range object that stands in the heap -/
def RgO (H : Hp) (a : Addr) (i j c : Int) : Prop := ∃ t u v, H a = some (.frz (rgObj i t j u c v) (.own 0))
theorem Inv.rgO {pins : List (Addr × Obj)} {σ : L2.St} {H : Hp} {s : Shared} (I : Inv X pins σ H s) {i j c : Int} {t u v : Tok} (tk : Nat) :
    Inv X pins σ (upd H s.heap.objs.size (.frz (rgObj i t j u c v) (.own 0))) { s with heap := s.heap.push { cls := .type "range", data := .fields #[.int i t, .int j u, .int c v] }, toks := tk } :=
  I.laid (t' := tk) (fun b o e => Heap.get?_push_of_some _ e) (Nat.le_refl _) ⟨Heap.get?_push_size _ rfl, ⟨_, Heap.get?_push_size _ rfl⟩⟩
theorem cr_rangeO : CallR X (.type "range") (fun vs H Q => ∃ i j c : Int, ((vs = [V.int j] ∧ i = 0 ∧ c = 1) ∨ (vs = [V.int i, V.int j] ∧ c = 1) ∨ vs = [V.int i, V.int j, V.int c]) ∧ c ≠ 0 ∧ c.natAbs < 1073741824 ∧ ∀ p t u v, H p = none → Q (.ref p) (upd H p (.frz (rgObj i t j u c v) (.own 0)))) := by
  intro pins s σ H vs us Q I r h
  obtain ⟨i, j, c, e, c0, c1, q⟩ := h
  rcases e with ⟨rfl, rfl, rfl⟩ | ⟨rfl, rfl⟩ | rfl
  · cases r with
    | cons r1 r2 =>
      cases r2
      obtain ⟨t, rfl⟩ := r1
      exact call_range_1 ⟨.ref s.heap.objs.size, _, Inv.rgO I _, rfl, q _ _ _ _ (I.hok.fresh (Nat.le_refl _))⟩
  · cases r with
    | cons r1 r2 =>
      cases r2 with
      | cons r2 r3 =>
        cases r3
        obtain ⟨t, rfl⟩ := r1
        obtain ⟨u, rfl⟩ := r2
        exact call_range_2 ⟨.ref s.heap.objs.size, _, Inv.rgO I _, rfl, q _ _ _ _ (I.hok.fresh (Nat.le_refl _))⟩
  · cases r with
    | cons r1 r2 =>
      cases r2 with
      | cons r2 r3 =>
        cases r3 with
        | cons r3 r4 =>
          cases r4
          obtain ⟨t, rfl⟩ := r1
          obtain ⟨u, rfl⟩ := r2
          obtain ⟨v, rfl⟩ := r3
          exact call_range_3 c0 ⟨.ref s.heap.objs.size, _, Inv.rgO I _, rfl, q _ _ _ _ (I.hok.fresh (Nat.le_refl _))⟩ (.inl (PyProof.noPylong_small c1))
end
def kRngO : List Va → Hs → Rs Va
  | [.int j] => fun h => .ok (.rg 0 j 1) h
  | [.int i, .int j] => fun h => .ok (.rg i j 1) h
  | [.int i, .int j, .int c] => fun h => if c ≠ 0 ∧ c.natAbs < 1073741824 then .ok (.rg i j c) h else .bad
  | _ => fun _ => .bad
theorem cs_rngO {X : Cx} : CaK X (.type "range") kRngO := ⟨_, cr_rangeO, by
  intro ρ H h xs vs W Q hr r p
  unfold kRngO at p
  have done : ∀ (i j c : Int), Po (ctOf X) (Rp (ctOf X)) W Q ρ H (.ok (.rg i j c) h) → ∀ p t u v, H p = none → Q (.ref p) (upd H p (.frz (rgObj i t j u c v) (.own 0))) := fun i j c p a t u v np => by
    have ex := ext_new (C := ctOf X) (ρ := ρ) (o := .frz (rgObj i t j u c v) (.own 0)) np
    exact p ρ _ _ ex (hr.tup_ np) (.rg upd_same)
  split at p
  · cases r with
    | cons r1 r2 => cases r1; cases r2; exact ⟨_, _, _, .inl ⟨rfl, rfl, rfl⟩, by decide, by decide, done _ _ _ p⟩
  · cases r with
    | cons r1 r2 => cases r1; cases r2 with
      | cons r2 r3 => cases r2; cases r3; exact ⟨_, _, _, .inr (.inl ⟨rfl, rfl⟩), by decide, by decide, done _ _ _ p⟩
  · cases r with
    | cons r1 r2 => cases r1; cases r2 with
      | cons r2 r3 => cases r2; cases r3 with
        | cons r3 r4 =>
          cases r3; cases r4
          split at p
          · rename_i c
            exact ⟨_, _, _, .inr (.inr rfl), c.1, c.2, done _ _ _ p⟩
          · exact p.elim
  · exact p.elim⟩
/-- what is walked: also a range object -/
def itVR : Va → Hs → Option (Src × Nat)
  | .rg i j c, _ => if (c ≠ 0 ∧ c.natAbs < 1073741824) ∧ Builtin.Range.small i j c = true ∧ 0 ≤ Builtin.Range.rangeSize i j c then some (srcC i c (Builtin.Range.rangeSize i j c).toNat, (Builtin.Range.rangeSize i j c).toNat) else none
  | x, h => itV x h
def sItrR (f : Sx) : Sit := bnd f fun x _ h => match itVR x h with
  | some s => .ok s h
  | none => .bad
section
variable {X : Cx} {W : WX} {tg e : Expr} {fe : Sx}
def iRgO (tl : TE) : TI := fun σ H R => tl σ H fun x H1 => ∃ (a : Addr) (i j c : Int) (n : Nat), x = .ref a ∧ RgO H1 a i j c ∧ RgC i j c n ∧ R (Itc i c n) H1
theorem pi_rgO {tl : TE} (hl : PE X e tl) : PI X tg e (iRgO tl) := by
  refine ⟨fun pins s σ H R I h => ?_⟩
  refine thn (hl.run pins s σ H _ I h) fun v s1 ⟨x, H1, I1, r1, q1⟩ => ?_
  obtain ⟨a, i, j, c, n, e, ⟨t, u, v, ha⟩, ⟨c0, c1, c2, c3⟩, q⟩ := q1
  subst e
  cases r1
  have hg : s1.heap.get? a = some (rgObj i t j u c v) := (I1.hok a _ ha).1
  refine wpAny_pyIter_range (show IsRange s1.heap a i j c t u v from hg) c2 ?_
  refine pi_one (tk := s1.toks) I1 _ (turn_rangeC _ i c n) ?_ q
  have e1 : i + ((0 : Nat) : Int) * c = i := by simp
  have e2 : (n : Int) - ((0 : Nat) : Int) = Builtin.Range.rangeSize i j c := by rw [c3]; simp
  show IsRangeIter _ _ (i + ((0 : Nat) : Int) * c) ((n : Int) - ((0 : Nat) : Int)) c
  rw [e1, e2]
  exact Heap.get?_push_size _ rfl
theorem si_itrR (he : PE X e (tE (ctOf X) W fe)) : PI X tg e (tIt (ctOf X) W (sItrR fe)) := pi_of (pi_or (si_any he) (pi_rgO he)) fun σ H Q h => by
  obtain ⟨ρ, e, h, hs, hr, p⟩ := h
  unfold sItrR bnd at p
  cases q : fe e h with
  | ok x h' =>
    rw [q] at p
    have hk : (∃ i j c, x = .rg i j c) ∨ itVR x h' = itV x h' := by cases x <;> first | exact .inl ⟨_, _, _, rfl⟩ | exact .inr rfl
    rcases hk with ⟨i, j, c, rfl⟩ | ek
    · refine .inr ⟨ρ, e, h, hs, hr, ?_⟩
      rw [q]
      intro ρ1 H1 v e1 hr1 rv
      cases rv with
      | rg ha =>
        have p : Po _ _ _ _ _ _ (match (if (c ≠ 0 ∧ c.natAbs < 1073741824) ∧ Builtin.Range.small i j c = true ∧ 0 ≤ Builtin.Range.rangeSize i j c then some (srcC i c (Builtin.Range.rangeSize i j c).toNat, (Builtin.Range.rangeSize i j c).toNat) else none) with | some s => .ok s h' | none => .bad) := p
        split at p
        · rename_i s hs'
          split at hs'
          · rename_i cc
            cases hs'
            exact ⟨_, _, _, _, _, rfl, ⟨_, _, _, ha⟩, ⟨cc.1.1, cc.1.2, cc.2.1, (Int.toNat_of_nonneg cc.2.2).symm⟩, p ρ1 H1 _ e1 hr1 srcC_of⟩
          · cases hs'
        · exact p.elim
    · refine .inl ⟨ρ, e, h, hs, hr, ?_⟩
      unfold sItr bnd
      rw [q]
      dsimp only at p
      rw [ek] at p
      exact p
  | ex x h' =>
    refine .inl ⟨ρ, e, h, hs, hr, ?_⟩
    unfold sItr bnd
    rw [q] at p ⊢
    exact p
  | bad =>
    rw [q] at p
    exact p.elim
end
end Fw

set_option Elab.async false
set_option linter.all false
set_option maxRecDepth 100000
set_option maxHeartbeats 2000000
set_option autoImplicit false
namespace Fw
open PySem PySem.Spec L2
open PyProof.Rows hiding St
/-! ### sorted of a dict of ai, of any length -/
section
variable {X : Cx}
def rSrtDW : List V → Hp → VK → Prop := fun zs H Q => ∃ (d : Addr) (es : List (Key × V)) (ns : List Int), zs = [.ref d] ∧ Rd H d (.dK es) ∧ es.map (·.1) = ns.map Sum.inl ∧ ns.length ≤ 1000000 ∧
    ∀ (ms : List Int) (b : Addr), ms.Perm ns → ms.Pairwise (· ≤ ·) → H b = none → Q (.ref b) (upd H b (.lst (ms.map V.int)))
theorem cr_srtDW (calm : X.calm = true) : CallR X (.builtin "sorted") rSrtDW := by
  rintro pn s0 sl H zs ws Q J rz ⟨d, es, ns, rfl, hd, ek, nl, fin⟩
  obtain ⟨w, rfl, rw0⟩ := vals1 rz
  cases rw0
  obtain ⟨_, low, vs, rel, dd⟩ := dk_rd J.hok hd
  obtain ⟨ep, at0⟩ := dd.dictAt
  have ks : vs.map (·.1) = ns.map Sum.inl := rel.keys.symm.trans ek
  have len : vs.length = ns.length := by simpa using congrArg List.length ks
  have big : (1000000 : Nat) ≤ sizeLine := by rw [sizeLine_eq]; omega
  have fits : vs.length ≤ sizeLine := by omega
  refine Calls.call_function_entry kind_sorted plain_sorted entry_sorted (args_sorted1 _) ?_
  unfold Builtin.«sorted»
  refine wpAny_bind (m := checkCount "sorted" 1 1 _) (wpAny_pure (wpAny_bind ?_ : _))
  refine (PySem.W.kdu_collect (A := X.A.in1) (PySem.W.kdl_dict (knd := mixKind X.prog X.w) (kvs := vs) (ep := ep) low) (J.ok.hd calm) at0 fits fun g tk got keep all => ?_)
  have gl : got.toList.length = ns.length := by rw [Array.length_toList, all.1, len]
  have ai : IntsAre got.toList ns := ints_each gl fun i v ev => by
    obtain ⟨k, x, q1, q2⟩ := all.2 i v (by rw [← Array.getElem?_toList]; exact ev)
    have q3 : (vs.map (·.1))[i]? = some k := by rw [List.getElem?_map, q1]; rfl
    rw [ks, List.getElem?_map] at q3
    cases q4 : ns[i]? with
    | none => rw [q4] at q3; cases q3
    | some n =>
      rw [q4] at q3
      have q5 : Sum.inl n = k := Option.some.inj q3
      subst q5
      rcases keyIs_shape (show keyIs (Sum.inl n) v = true from q2) with ⟨m, t, f1, f2⟩ | ⟨m, t, f1, f2⟩
      · cases f1
        exact ⟨n, t, rfl, f2⟩
      · cases f1
  have J1 : Inv X pn sl H { s0 with heap := g, toks := tk } := J.kept keep
  refine wpAny_bind (wpAny_newList ?_ (by omega))
  have there : (g.push (seqObj "list" got.toList.toArray 0)).get? g.objs.size = some (seqObj "list" got.toList.toArray 0) := Heap.get?_push_size _ rfl
  show wpAny _ _ _ _ _ { s0 with heap := g.push (seqObj "list" got.toList.toArray 0), toks := tk }
  refine wpAny_bind (wpAny_holding (wpAny_call_entry slot_list_sort ⟨_, there, rfl⟩ entry_list_sort
    (SrtO.list_sort_ord SrtO.swo_int (s := { s0 with heap := g.push (seqObj "list" got.toList.toArray 0), toks := tk }) there (by omega) (fun two => SrtO.ints_sortable ai two) fun out o1 o2 => ⟨_, rfl, ?_⟩) (args_list_sort _)))
  obtain ⟨u1, u2, u3⟩ := SrtO.ints_out ai o1 o2
  obtain ⟨e', he'⟩ := sortedHeap_at (vs := got.toList) (out := out.toArray) there
  have ol : ((out.map SrtO.iv).map V.int).length ≤ sizeLine := by
    rw [List.length_map, u2.length_eq]
    omega
  refine wpAny_pure ⟨_, rfl, .ref g.objs.size, upd H g.objs.size (.lst ((out.map SrtO.iv).map V.int)), J1.laid (t' := tk) (fun b v ev => ?_) (Nat.le_refl _) ⟨ol, out, e', vals_of_ints u1, he'⟩, rfl, fin _ _ u2 u3 (J1.hok.fresh (Nat.le_refl _))⟩
  have below := Heap.lt_size ev
  rw [sortedHeap_old (Nat.ne_of_lt below) (by rw [size_push']; exact Nat.lt_succ_of_lt below), Heap.get?_push_of_some _ ev]
end
def keyI (q : Va × Va) : Option Int := asI q.1
theorem keysI_of {C : Ct} {ρ : List Addr} {H : Hp} : ∀ {xs : List (Va × Va)} {vs : List (Key × V)} {ns : List Int}, RpK C ρ H xs vs → mapO keyI xs = some ns → vs.map (·.1) = ns.map Sum.inl
  | _, _, _, .nil, e => by cases e; rfl
  | _, _, _, .cons (k := k) (xs := xs) q r rs, e => by
    unfold mapO at e
    split at e
    · rename_i y ys h1 h2
      cases e
      cases k <;> first
        | (cases h1; cases q; rw [List.map_cons, List.map_cons, keysI_of rs h2])
        | cases h1
    · cases e
def kSrtD : List Va → Hs → Rs Va := fun xs h => match xs with
  | [.loc n] => match h[n]? with
    | some (.dct kvs) => match mapO keyI kvs with
      | some ns => if ns.length ≤ 1000000 then newL ((srtI ns).map Va.int) h else .bad
      | none => .bad
    | _ => .bad
  | _ => .bad
theorem cs_srtD {X : Cx} (hc : X.calm = true) : CaK X (.builtin "sorted") kSrtD := ⟨_, cr_srtDW hc, by
  intro ρ H h xs vs W Q hr r p
  unfold kSrtD at p
  split at p
  · rename_i n
    obtain ⟨v, rfl, rv⟩ := one_arg r rfl
    split at p
    · rename_i kvs hn
      obtain ⟨a, us, rfl, _, hd, rk⟩ := hr.dc_ hn rv
      split at p
      · rename_i ns e
        split at p
        · rename_i c
          refine ⟨a, us, ns, rfl, .of hd, keysI_of rk e, c, fun ms b pm so hb => ?_⟩
          have e3 : ms = srtI ns := sorted_one (pm.trans (srtI_perm ns).symm) so (srtI_sorted ns)
          subst e3
          exact (newL_of hr (rpInts _) p).2 b hb
        · exact p.elim
      · exact p.elim
    · exact p.elim
  · exact p.elim⟩
end Fw

set_option Elab.async false
set_option linter.all false
set_option maxRecDepth 100000
set_option maxHeartbeats 2000000
set_option autoImplicit false
namespace Pg
open PySem PySem.Spec L2 Fw 
open PyProof.Rows hiding St
def b_is_within : Ss :=
  (sRet (sAndV (s2 (kIs false) (sBlt kTyp (sCons (sVar 0) sNil)) (sK (.ty "int"))) (sChn kLe kLe (sVar 1) (sVar 0) (sVar 2))))
abbrev R_is_within : Fn := runB 3 b_is_within
def G_is_within : Fn := pureF R_is_within
def b_is_text : Ss :=
  (sRet (sAndV (s2 (kIs false) (sBlt kTyp (sCons (sVar 0) sNil)) (sK (.ty "str"))) (sAndV (sChn kLe kLe (sVar 2) (sBlt kLen (sCons (sVar 0) sNil)) (sVar 3)) (s2 kEq (sMth "str" kStrp (sVar 0) (sCons (sVar 1) sNil)) (sK (.str []))))))
abbrev R_is_text : Fn := runB 4 b_is_text
def G_is_text : Fn := pureF R_is_text
def b__count_endings : Ss :=
  (seq (sIf (sBl (s2 kLt (sVar 0) (sK (.int 0))))
  (sRet (sK (.int 0)))
  skip)
  (seq (sSet 2 (s2 kAdd (sVar 0) (sVar 1)))
  (sRet (s2 kSub (sBlt kCmb (sCons (sVar 2) (sCons (sVar 0) sNil))) (sBlt kCmb (sCons (sVar 2) (sCons (s2 kAdd (sVar 1) (sK (.int 1))) sNil)))))))
abbrev R__count_endings : Fn := runB 3 b__count_endings
def G__count_endings : Fn := pureF R__count_endings
def b_mates_of : Ss :=
  (seq (sSet 1 (s2 kMul (sLst (sCons (sK (.int 0)) sNil)) (sBlt kLen (sCons (sVar 0) sNil))))
  (seq (sSet 2 (sLst sNil))
  (seq (sFor (sEnuT (sCons (sVar 0) sNil)) (gTp 2 (gsCons (gNm 3) (gsCons (gNm 4) gsNil)))
  (sIf (sBl (s2 kEq (sVar 4) (sK (.str [40]))))
  (sDrop (sMth "list" kApp (sVar 2) (sCons (sVar 3) sNil)))
  (seq (sSet 5 (sMth "list" kPop (sVar 2) sNil))
  (seq (sAsg (sVar 5) (gSb (sVar 1) (sVar 3)))
  (sAsg (sVar 3) (gSb (sVar 1) (sVar 5)))))))
  (sRet (sVar 1)))))
abbrev R_mates_of : Fn := runB 6 b_mates_of
def G_mates_of : Fn := pureF R_mates_of
def b_row_of_mates : Ss :=
  (sRet (sMth "str" kJoin (sK (.str [])) (sCons (sLc (sEnuT (sCons (sVar 0) sNil)) (gTp 2 (gsCons (gNm 1) (gsCons (gNm 2) gsNil))) tru (sIte (sBl (s2 kLt (sVar 1) (sVar 2))) (sK (.str [40])) (sK (.str [41]))) [1, 2]) sNil)))
abbrev R_row_of_mates : Fn := runB 3 b_row_of_mates
@[irreducible] def G_row_of_mates : Fn := R_row_of_mates
theorem g_row_of_mates (xs : List Va) (h : Hs) (_ : xs.length = 1) (_ : G_row_of_mates xs h ≠ .bad) : R_row_of_mates xs h = G_row_of_mates xs h := by unfold G_row_of_mates; rfl
def b__join : Ss :=
  (seq (sAsg (sVar 2) (gSb (sVar 0) (sVar 1)))
  (sAsg (sVar 1) (gSb (sVar 0) (sVar 2))))
abbrev R__join : Fn := runB 3 b__join
@[irreducible] def G__join : Fn := R__join
theorem g__join (xs : List Va) (h : Hs) (_ : xs.length = 3) (_ : G__join xs h ≠ .bad) : R__join xs h = G__join xs h := by unfold G__join; rfl
def b_walk_from : Ss :=
  (seq (sSet 3 (sLst sNil))
  (seq (sSet 4 (sVar 2))
  (seq (whl (sOr (sNot (sTru (sVar 3))) (sBl (s2 kNe (sVar 4) (sVar 2))))
  (seq (sSet 5 (s2 kIx (sVar 0) (sVar 4)))
  (seq (sDrop (sMth "list" kApp (sVar 3) (sCons (sVar 4) sNil)))
  (seq (sDrop (sMth "list" kApp (sVar 3) (sCons (sVar 5) sNil)))
  (sSet 4 (s2 kIx (sVar 1) (sVar 5)))))) 1000)
  (sRet (sVar 3)))))
abbrev R_walk_from : Fn := runB 6 b_walk_from
@[irreducible] def G_walk_from : Fn := R_walk_from
theorem g_walk_from (xs : List Va) (h : Hs) (_ : xs.length = 3) (_ : G_walk_from xs h ≠ .bad) : R_walk_from xs h = G_walk_from xs h := by unfold G_walk_from; rfl
def b__choose : Ss :=
  (sRet (sIte (sBl (s2 kGe (sVar 1) (sK (.int 0)))) (sBlt kCmb (sCons (sVar 0) (sCons (sVar 1) sNil))) (sK (.int 0))))
abbrev R__choose : Fn := runB 2 b__choose
def G__choose : Fn := pureF R__choose
def b__power : Ss :=
  (seq (sSet 2 (sK (.int 1)))
  (seq (sFor (sRg1 (sCons (sVar 1) sNil)) (gNm 3)
  (sSet 2 (s2 kMulZ (sVar 2) (sVar 0))))
  (sRet (sVar 2))))
abbrev R__power : Fn := runB 4 b__power
def G__power : Fn := pureF R__power
def b__follow : Ss :=
  (seq (sSet 4 (sBlt kLen (sCons (sVar 3) sNil)))
  (seq (sSet 5 (s2 kLt (sVar 2) (sVar 4)))
  (seq (sSet 6 (sIte (sTru (sVar 5)) (s2 kIx (sVar 0) (sVar 2)) (s2 kIx (sVar 1) (sVar 2))))
  (seq (whl (sBl (s2 kNe (s2 kLt (sVar 6) (sVar 4)) (sVar 5)))
  (seq (sSet 6 (s2 kSub (s2 kSub (sBlt kLen (sCons (sVar 0) sNil)) (sK (.int 1))) (sVar 6)))
  (seq (sSet 5 (sNotV (sVar 5)))
  (seq (sAsg (sK (.bl true)) (gSb (sVar 3) (sBlt kMin (sCons (sVar 6) (sCons (s2 kSub (s2 kSub (sBlt kLen (sCons (sVar 0) sNil)) (sK (.int 1))) (sVar 6)) sNil)))))
  (sSet 6 (sIte (sTru (sVar 5)) (s2 kIx (sVar 0) (sVar 6)) (s2 kIx (sVar 1) (sVar 6))))))) 1000)
  (sRet (sVar 6))))))
abbrev R__follow : Fn := runB 7 b__follow
@[irreducible] def G__follow : Fn := R__follow
theorem g__follow (xs : List Va) (h : Hs) (_ : xs.length = 4) (_ : G__follow xs h ≠ .bad) : R__follow xs h = G__follow xs h := by unfold G__follow; rfl
def b__count_closed : Ss :=
  (seq (sSet 3 (sK (.int 0)))
  (seq (sFor (sRg1 (sCons (sBlt kLen (sCons (sVar 2) sNil)) sNil)) (gNm 4)
  (seq (sIf (sNot (sTru (s2 kIx (sVar 2) (sVar 4))))
  (sAug kIad 3 (sK (.int 1)))
  skip)
  (seq (sSet 5 (sVar 4))
  (whl (sNot (sTru (s2 kIx (sVar 2) (sVar 5))))
  (seq (sAsg (sK (.bl true)) (gSb (sVar 2) (sVar 5)))
  (seq (sSet 6 (s2 kIx (sVar 1) (sVar 5)))
  (seq (sAsg (sK (.bl true)) (gSb (sVar 2) (sVar 6)))
  (sSet 5 (s2 kSub (s2 kSub (sBlt kLen (sCons (sVar 0) sNil)) (sK (.int 1))) (s2 kIx (sVar 0) (s2 kSub (s2 kSub (sBlt kLen (sCons (sVar 0) sNil)) (sK (.int 1))) (sVar 6)))))))) 1000))))
  (sRet (sVar 3))))
abbrev R__count_closed : Fn := runB 7 b__count_closed
@[irreducible] def G__count_closed : Fn := R__count_closed
theorem g__count_closed (xs : List Va) (h : Hs) (_ : xs.length = 3) (_ : G__count_closed xs h ≠ .bad) : R__count_closed xs h = G__count_closed xs h := by unfold G__count_closed; rfl
def b_is_crossing : Ss :=
  (seq (sAsg (sVar 0) (gTp 2 (gsCons (gNm 2) (gsCons (gNm 3) gsNil))))
  (seq (sAsg (sVar 1) (gTp 2 (gsCons (gNm 4) (gsCons (gNm 5) gsNil))))
  (sRet (sOrV (sCh3 kLt kLt kLt (sVar 2) (sVar 4) (sVar 3) (sVar 5)) (sCh3 kLt kLt kLt (sVar 4) (sVar 2) (sVar 5) (sVar 3))))))
abbrev R_is_crossing : Fn := runB 6 b_is_crossing
def G_is_crossing : Fn := pureF R_is_crossing
def b__is_tuple : Ss :=
  (sRet (sAndV (s2 (kIs false) (sBlt kTyp (sCons (sVar 0) sNil)) (sK (.ty "tuple"))) (sChn kLe kLe (sVar 1) (sBlt kLen (sCons (sVar 0) sNil)) (sVar 2))))
abbrev R__is_tuple : Fn := runB 3 b__is_tuple
def G__is_tuple : Fn := pureF R__is_tuple
def b__joined : Ss :=
  (sRet (sBlt kSrtI (sCons (sLc (sZip (sCons (sVar 0) (sCons (sVar 1) sNil))) (gTp 2 (gsCons (gNm 2) (gsCons (gNm 3) gsNil))) tru (sTup (sCons (sBlt kMin (sCons (sVar 2) (sCons (sVar 3) sNil))) (sCons (sBlt kMax (sCons (sVar 2) (sCons (sVar 3) sNil))) sNil))) [2, 3]) sNil)))
abbrev R__joined : Fn := runB 4 b__joined
@[irreducible] def G__joined : Fn := R__joined
theorem g__joined (xs : List Va) (h : Hs) (_ : xs.length = 2) (_ : G__joined xs h ≠ .bad) : R__joined xs h = G__joined xs h := by unfold G__joined; rfl
def b_is_shuffle : Ss :=
  (sRet (sAndV (s2 (kIs false) (sBlt kTyp (sCons (sVar 0) sNil)) (sK (.ty "str"))) (s2 (kIn false) (sVar 0) (sK (.tup [Va.str [111, 117, 116], Va.str [105, 110], Va.str [102, 111, 108, 100]])))))
abbrev R_is_shuffle : Fn := runB 1 b_is_shuffle
def G_is_shuffle : Fn := pureF R_is_shuffle
def b_is_row : Ss :=
  (seq (sIf (sNot (sTru (sCall G_is_text 4 [0, 1, 2, 3] (sCons (sVar 0) (sCons (sK (.str [40, 41])) (sCons (sK (.int 0)) (sCons (s2 kMul (sK (.int 2)) (sK (.int 12))) sNil)))))))
  (sRet (sK (.bl false)))
  skip)
  (seq (sSet 1 (sK (.int 0)))
  (seq (sFor (sItr (sVar 0)) (gNm 2)
  (seq (sAug kIad 1 (sIte (sBl (s2 kEq (sVar 2) (sK (.str [40])))) (sK (.int 1)) (s1 kNeg (sK (.int 1)))))
  (sIf (sBl (s2 kLt (sVar 1) (sK (.int 0))))
  (sRet (sK (.bl false)))
  skip)))
  (sRet (s2 kEq (sVar 1) (sK (.int 0)))))))
abbrev R_is_row : Fn := runB 3 b_is_row
def G_is_row : Fn := pureF R_is_row
def b_need_number : Ss :=
  (sIf (sNot (sTru (sCall G_is_within 3 [0, 1, 2] (sCons (sVar 0) (sCons (sVar 1) (sCons (sVar 2) sNil))))))
  never
  skip)
abbrev R_need_number : Fn := runB 3 b_need_number
def G_need_number : Fn := pureF R_need_number
def b_need_foot : Ss :=
  (sIf (sNot (sTru (sCall G_is_within 3 [0, 1, 2] (sCons (sVar 1) (sCons (sK (.int 0)) (sCons (s2 kSub (sBlt kLen (sCons (sVar 0) sNil)) (sK (.int 1))) sNil))))))
  never
  skip)
abbrev R_need_foot : Fn := runB 2 b_need_foot
def G_need_foot : Fn := pureF R_need_foot
def b_exchange_in : Ss :=
  (seq (sIf (sOr (sBl (s2 kEq (sVar 2) (sVar 1))) (sBl (s2 kEq (sVar 2) (s2 kIx (sVar 0) (sVar 1)))))
  (sRet (sK .non))
  skip)
  (seq (sAsg (sBlt kSrtI (sCons (sLst (sCons (sVar 1) (sCons (s2 kIx (sVar 0) (sVar 1)) (sCons (sVar 2) (sCons (s2 kIx (sVar 0) (sVar 2)) sNil))))) sNil)) (gTp 4 (gsCons (gNm 3) (gsCons (gNm 4) (gsCons (gNm 5) (gsCons (gNm 6) gsNil))))))
  (seq (sSet 7 (sBlt kLst (sCons (sVar 0) sNil)))
  (seq (sIf (sBl (s2 kEq (s2 kIx (sVar 0) (sVar 3)) (sVar 4)))
  (seq (sDrop (sCall G__join 3 [0, 1, 2] (sCons (sVar 7) (sCons (sVar 3) (sCons (sVar 6) sNil)))))
  (sDrop (sCall G__join 3 [0, 1, 2] (sCons (sVar 7) (sCons (sVar 4) (sCons (sVar 5) sNil))))))
  (seq (sDrop (sCall G__join 3 [0, 1, 2] (sCons (sVar 7) (sCons (sVar 3) (sCons (sVar 4) sNil)))))
  (sDrop (sCall G__join 3 [0, 1, 2] (sCons (sVar 7) (sCons (sVar 5) (sCons (sVar 6) sNil)))))))
  (seq (sSet 8 (sCall G_row_of_mates 1 [0] (sCons (sVar 7) sNil)))
  (sRet (sIte (sBl (s2 kEq (sCall G_mates_of 1 [0] (sCons (sVar 8) sNil)) (sVar 7))) (sVar 8) (sK .non))))))))
abbrev R_exchange_in : Fn := runB 9 b_exchange_in
@[irreducible] def G_exchange_in : Fn := R_exchange_in
theorem g_exchange_in (xs : List Va) (h : Hs) (_ : xs.length = 3) (_ : G_exchange_in xs h ≠ .bad) : R_exchange_in xs h = G_exchange_in xs h := by unfold G_exchange_in; rfl
def b__rounds_of_mates : Ss :=
  (seq (sSet 2 (sLst sNil))
  (seq (sSet 3 (s2 kMul (sLst (sCons (sK (.bl false)) sNil)) (sBlt kLen (sCons (sVar 0) sNil))))
  (seq (sFor (sRg1 (sCons (sBlt kLen (sCons (sVar 0) sNil)) sNil)) (gNm 4)
  (sIf (sNot (sTru (s2 kIx (sVar 3) (sVar 4))))
  (seq (sSet 5 (sBlt kSrtI (sCons (sCall G_walk_from 3 [0, 1, 2] (sCons (sVar 0) (sCons (sVar 1) (sCons (sVar 4) sNil)))) sNil)))
  (seq (sDrop (sMth "list" kApp (sVar 2) (sCons (sBlt kTpl (sCons (sVar 5) sNil)) sNil)))
  (sFor (sItr (sVar 5)) (gNm 6)
  (sAsg (sK (.bl true)) (gSb (sVar 3) (sVar 6))))))
  skip))
  (sRet (sVar 2)))))
abbrev R__rounds_of_mates : Fn := runB 7 b__rounds_of_mates
@[irreducible] def G__rounds_of_mates : Fn := R__rounds_of_mates
theorem g__rounds_of_mates (xs : List Va) (h : Hs) (_ : xs.length = 2) (_ : G__rounds_of_mates xs h ≠ .bad) : R__rounds_of_mates xs h = G__rounds_of_mates xs h := by unfold G__rounds_of_mates; rfl
def b__exponent : Ss :=
  (seq (sAsg (sLc (sRg1 (sCons (sK (.int 3)) sNil)) (gNm 5) tru (sCall G__choose 2 [0, 1] (sCons (s2 kMul (sK (.int 2)) (sVar 0)) (sCons (s2 kSub (s2 kSub (sVar 0) (sVar 1)) (sVar 5)) sNil))) [5]) (gTp 3 (gsCons (gNm 2) (gsCons (gNm 3) (gsCons (gNm 4) gsNil)))))
  (sRet (s2 kAdd (s2 kSub (sVar 2) (s2 kMul (sK (.int 2)) (sVar 3))) (sVar 4))))
abbrev R__exponent : Fn := runB 6 b__exponent
def G__exponent : Fn := pureF R__exponent
def b__wrong_in_order : Ss :=
  (seq (sFor (sEnuX (sCons (sVar 0) sNil)) (gTp 2 (gsCons (gNm 1) (gsCons (gNm 2) gsNil)))
  (sIf (sOr (sNot (sTru (sCall G_is_within 3 [0, 1, 2] (sCons (sVar 2) (sCons (sK (.int 0)) (sCons (s2 kSub (sBlt kLen (sCons (sVar 0) sNil)) (sK (.int 1))) sNil)))))) (sBl (s2 (kIn false) (sVar 2) (sSl (sVar 0) sNo (sSo (sVar 1))))))
  (sRet (sVar 1))
  skip))
  (sRet (sK .non)))
abbrev R__wrong_in_order : Fn := runB 3 b__wrong_in_order
def G__wrong_in_order : Fn := pureF R__wrong_in_order
def b_arches_along : Ss :=
  (sRet (sTup (sCons (sCall G__joined 2 [0, 1] (sCons (s2 kStp2 (sVar 0) (sK (.int 0))) (sCons (s2 kStp2 (sVar 0) (sK (.int 1))) sNil))) (sCons (sCall G__joined 2 [0, 1] (sCons (s2 kStp2 (sVar 0) (sK (.int 1))) (sCons (s2 kAdd (s2 kStp2 (sVar 0) (sK (.int 2))) (sSl (sVar 0) sNo (sSo (sK (.int 1))))) sNil))) sNil))))
abbrev R_arches_along : Fn := runB 1 b_arches_along
def G_arches_along : Fn := pureF R_arches_along
def b__is_one_round : Ss :=
  (seq (sIf (sNot (sTru (sVar 0)))
  (sRet (sK (.bl false)))
  skip)
  (sRet (s2 kEq (sBlt kLen (sCons (sCall G_walk_from 3 [0, 1, 2] (sCons (sVar 0) (sCons (sVar 1) (sCons (sK (.int 0)) sNil)))) sNil)) (sBlt kLen (sCons (sVar 0) sNil)))))
abbrev R__is_one_round : Fn := runB 2 b__is_one_round
@[irreducible] def G__is_one_round : Fn := R__is_one_round
theorem g__is_one_round (xs : List Va) (h : Hs) (_ : xs.length = 2) (_ : G__is_one_round xs h ≠ .bad) : R__is_one_round xs h = G__is_one_round xs h := by unfold G__is_one_round; rfl
def b_is_name : Ss :=
  (sRet (sCall G_is_text 4 [0, 1, 2, 3] (sCons (sVar 0) (sCons (sK (.str [97, 98, 99, 100, 101, 102, 103, 104, 105, 106, 107, 108, 109, 110, 111, 112, 113, 114, 115, 116, 117, 118, 119, 120, 121, 122])) (sCons (sK (.int 1)) (sCons (sK (.int 8)) sNil))))))
abbrev R_is_name : Fn := runB 1 b_is_name
def G_is_name : Fn := pureF R_is_name
def b_need_hooks : Ss :=
  (seq (sIf (sBl (s2 (kIs true) (sBlt kTyp (sCons (sVar 1) sNil)) (sK (.ty "tuple"))))
  never
  skip)
  (sFor (sEnuX (sCons (sVar 1) sNil)) (gTp 2 (gsCons (gNm 2) (gsCons (gNm 3) gsNil)))
  (sIf (sOr (sBl (s2 kEq (sVar 2) (sK (.int 60)))) (sNot (sTru (sCall G_is_within 3 [0, 1, 2] (sCons (sVar 3) (sCons (sK (.int 0)) (sCons (s2 kSub (sVar 0) (sK (.int 2))) sNil)))))))
  never
  skip)))
abbrev R_need_hooks : Fn := runB 4 b_need_hooks
def G_need_hooks : Fn := pureF R_need_hooks
def b_need_marks : Ss :=
  (sIf (sNot (sTru (sCall G_is_text 4 [0, 1, 2, 3] (sCons (sVar 0) (sCons (sK (.str [109, 118])) (sCons (sVar 1) (sCons (sVar 2) sNil)))))))
  never
  skip)
abbrev R_need_marks : Fn := runB 3 b_need_marks
def G_need_marks : Fn := pureF R_need_marks
def b_need_lengths : Ss :=
  (seq (sIf (sNot (sTru (sCall G__is_tuple 3 [0, 1, 2] (sCons (sVar 0) (sCons (sK (.int 1)) (sCons (sK (.int 8)) sNil))))))
  never
  skip)
  (sFor (sEnuX (sCons (sVar 0) sNil)) (gTp 2 (gsCons (gNm 1) (gsCons (gNm 2) gsNil)))
  (sIf (sNot (sTru (sCall G_is_within 3 [0, 1, 2] (sCons (sVar 2) (sCons (sK (.int 1)) (sCons (sK (.int 1000)) sNil))))))
  never
  skip)))
abbrev R_need_lengths : Fn := runB 3 b_need_lengths
def G_need_lengths : Fn := pureF R_need_lengths
def b_need_ways : Ss :=
  (sIf (sNot (sTru (sCall G_is_text 4 [0, 1, 2, 3] (sCons (sVar 0) (sCons (sK (.str [111, 117])) (sCons (sK (.int 1)) (sCons (sK (.int 100)) sNil)))))))
  never
  skip)
abbrev R_need_ways : Fn := runB 1 b_need_ways
def G_need_ways : Fn := pureF R_need_ways
def b_need_course : Ss :=
  (seq (sIf (sNot (sTru (sCall G__is_tuple 3 [0, 1, 2] (sCons (sVar 0) (sCons (sK (.int 2)) (sCons (sK (.int 2)) sNil))))))
  never
  skip)
  (sIf (sOr (sNot (sTru (sCall G_is_text 4 [0, 1, 2, 3] (sCons (s2 kIx (sVar 0) (sK (.int 0))) (sCons (sK (.str [108, 114])) (sCons (sK (.int 0)) (sCons (sK (.int 40)) sNil))))))) (sNot (sTru (sCall G_is_text 4 [0, 1, 2, 3] (sCons (s2 kIx (sVar 0) (sK (.int 1))) (sCons (sK (.str [108, 114])) (sCons (sK (.int 1)) (sCons (sK (.int 40)) sNil))))))))
  never
  skip))
abbrev R_need_course : Fn := runB 1 b_need_course
def G_need_course : Fn := pureF R_need_course
def b_need_shuffle : Ss :=
  (sIf (sNot (sTru (sCall G_is_shuffle 1 [0] (sCons (sVar 0) sNil))))
  never
  skip)
abbrev R_need_shuffle : Fn := runB 1 b_need_shuffle
def G_need_shuffle : Fn := pureF R_need_shuffle
def b_is_size : Ss :=
  (sRet (sAndV (sCall G_is_within 3 [0, 1, 2] (sCons (sVar 0) (sCons (sK (.int 2)) (sCons (sK (.int 1000000)) sNil)))) (s2 kEq (s2 kMod (sVar 0) (sK (.int 2))) (sK (.int 0)))))
abbrev R_is_size : Fn := runB 1 b_is_size
def G_is_size : Fn := pureF R_is_size
def b__is_pair_of_pieces : Ss :=
  (seq (sIf (sNot (sTru (sCall G__is_tuple 3 [0, 1, 2] (sCons (sVar 0) (sCons (sK (.int 2)) (sCons (sK (.int 2)) sNil))))))
  (sRet (sK (.bl false)))
  skip)
  (sRet (sAndV (sCall G_is_within 3 [0, 1, 2] (sCons (s2 kIx (sVar 0) (sK (.int 0))) (sCons (sK (.int 0)) (sCons (sVar 1) sNil)))) (sAndV (sCall G_is_within 3 [0, 1, 2] (sCons (s2 kIx (sVar 0) (sK (.int 1))) (sCons (sK (.int 0)) (sCons (sVar 1) sNil)))) (s2 kNe (s2 kIx (sVar 0) (sK (.int 0))) (s2 kIx (sVar 0) (sK (.int 1))))))))
abbrev R__is_pair_of_pieces : Fn := runB 2 b__is_pair_of_pieces
def G__is_pair_of_pieces : Fn := pureF R__is_pair_of_pieces
def b_need_place : Ss :=
  (sIf (sNot (sTru (sCall G_is_within 3 [0, 1, 2] (sCons (sVar 1) (sCons (sK (.int 1)) (sCons (s2 kSub (s2 kShl (sK (.int 1)) (sVar 0)) (sK (.int 1))) sNil))))))
  never
  skip)
abbrev R_need_place : Fn := runB 2 b_need_place
def G_need_place : Fn := pureF R_need_place
def b__is_spot : Ss :=
  (sRet (sAndV (sCall G__is_tuple 3 [0, 1, 2] (sCons (sVar 0) (sCons (sK (.int 2)) (sCons (sK (.int 2)) sNil)))) (sAndV (sCall G_is_within 3 [0, 1, 2] (sCons (s2 kIx (sVar 0) (sK (.int 0))) (sCons (sK (.int 1)) (sCons (sVar 1) sNil)))) (sCall G_is_text 4 [0, 1, 2, 3] (sCons (s2 kIx (sVar 0) (sK (.int 1))) (sCons (sK (.str [109, 118])) (sCons (sK (.int 1)) (sCons (sK (.int 1)) sNil))))))))
abbrev R__is_spot : Fn := runB 2 b__is_spot
def G__is_spot : Fn := pureF R__is_spot
def b_need_loop : Ss :=
  (sIf (sNot (sTru (sCall G_is_text 4 [0, 1, 2, 3] (sCons (sVar 0) (sCons (sK (.str [108, 114])) (sCons (sK (.int 1)) (sCons (sK (.int 40)) sNil)))))))
  never
  skip)
abbrev R_need_loop : Fn := runB 1 b_need_loop
def G_need_loop : Fn := pureF R_need_loop
def b_need_fraction : Ss :=
  (seq (sIf (sNot (sTru (sCall G__is_tuple 3 [0, 1, 2] (sCons (sVar 0) (sCons (sK (.int 2)) (sCons (sK (.int 2)) sNil))))))
  never
  skip)
  (seq (sAsg (sVar 0) (gTp 2 (gsCons (gNm 1) (gsCons (gNm 2) gsNil))))
  (sIf (sOr (sNot (sTru (sCall G_is_within 3 [0, 1, 2] (sCons (sVar 2) (sCons (sK (.int 1)) (sCons (sK (.int 1000000)) sNil)))))) (sOr (sNot (sTru (sCall G_is_within 3 [0, 1, 2] (sCons (sVar 1) (sCons (sK (.int 0)) (sCons (sVar 2) sNil)))))) (sBl (s2 kGt (sBlt kGcd (sCons (sVar 1) (sCons (sVar 2) sNil))) (sK (.int 1))))))
  never
  skip)))
abbrev R_need_fraction : Fn := runB 3 b_need_fraction
def G_need_fraction : Fn := pureF R_need_fraction
def b_need_row : Ss :=
  (sIf (sNot (sTru (sCall G_is_row 1 [0] (sCons (sVar 0) sNil))))
  never
  skip)
abbrev R_need_row : Fn := runB 1 b_need_row
def G_need_row : Fn := pureF R_need_row
def b_count_rows : Ss :=
  (seq (sDrop (sCall G_need_number 3 [0, 1, 2] (sCons (sVar 0) (sCons (sK (.int 0)) (sCons (sK (.int 12)) sNil)))))
  (sRet (sCall G__count_endings 2 [0, 1] (sCons (sVar 0) (sCons (sVar 0) sNil)))))
abbrev R_count_rows : Fn := runB 1 b_count_rows
def G_count_rows : Fn := pureF R_count_rows
def b_count_with_short : Ss :=
  (seq (sDrop (sCall G_need_number 3 [0, 1, 2] (sCons (sVar 0) (sCons (sK (.int 0)) (sCons (sK (.int 12)) sNil)))))
  (seq (sDrop (sCall G_need_number 3 [0, 1, 2] (sCons (sVar 1) (sCons (sK (.int 0)) (sCons (sK (.int 12)) sNil)))))
  (seq (sIf (sOr (sBl (s2 kEq (sVar 0) (sK (.int 0)))) (sBl (s2 kEq (sVar 1) (sK (.int 0)))))
  (sRet (sIte (sBl (s2 kEq (sVar 0) (sVar 1))) (sK (.int 1)) (sK (.int 0))))
  skip)
  (sRet (s2 kFdv (s2 kMul (sBlt kCmb (sCons (sVar 0) (sCons (sVar 1) sNil))) (sBlt kCmb (sCons (sVar 0) (sCons (s2 kSub (sVar 1) (sK (.int 1))) sNil)))) (sVar 0))))))
abbrev R_count_with_short : Fn := runB 2 b_count_with_short
def G_count_with_short : Fn := pureF R_count_with_short
def b_powers : Ss :=
  (seq (sDrop (sCall G_need_number 3 [0, 1, 2] (sCons (sVar 0) (sCons (sK (.int 1)) (sCons (sK (.int 7)) sNil)))))
  (sRet (sBlt kTpl (sCons (sLc (sRg2 (sCons (sK (.int 1)) (sCons (s2 kAdd (sVar 0) (sK (.int 1))) sNil))) (gNm 1) tru (sCall G__exponent 2 [0, 1] (sCons (sVar 0) (sCons (sVar 1) sNil))) [1]) sNil))))
abbrev R_powers : Fn := runB 2 b_powers
def G_powers : Fn := pureF R_powers
def b__need_worth : Ss :=
  (sDrop (sCall G_need_number 3 [0, 1, 2] (sCons (sVar 0) (sCons (s1 kNeg (sK (.int 1000))) (sCons (sK (.int 1000)) sNil)))))
abbrev R__need_worth : Fn := runB 1 b__need_worth
def G__need_worth : Fn := pureF R__need_worth
def b_unit : Ss :=
  (seq (sDrop (sCall G_need_number 3 [0, 1, 2] (sCons (sVar 0) (sCons (sK (.int 1)) (sCons (sK (.int 12)) sNil)))))
  (sRet (s2 kAdd (s2 kMulS (sK (.str [40])) (sVar 0)) (s2 kMulS (sK (.str [41])) (sVar 0)))))
abbrev R_unit : Fn := runB 1 b_unit
def G_unit : Fn := pureF R_unit
def b_need_candidate : Ss :=
  (seq (sIf (sOr (sNot (sTru (sCall G__is_tuple 3 [0, 1, 2] (sCons (sVar 0) (sCons (sK (.int 2)) (sCons (s2 kMul (sK (.int 2)) (sK (.int 12))) sNil)))))) (sBl (s2 kEq (s2 kMod (sBlt kLen (sCons (sVar 0) sNil)) (sK (.int 2))) (sK (.int 1)))))
  never
  skip)
  (seq (sIf (sNot (sTru (sCall G_is_within 3 [0, 1, 2] (sCons (s2 kIx (sVar 0) (sK (.int 0))) (sCons (sK (.int 0)) (sCons (sK (.int 0)) sNil))))))
  never
  skip)
  (seq (sSet 1 (sCall G__wrong_in_order 1 [0] (sCons (sVar 0) sNil)))
  (sIf (sBl (s2 (kIs true) (sVar 1) (sK .non)))
  never
  skip))))
abbrev R_need_candidate : Fn := runB 2 b_need_candidate
def G_need_candidate : Fn := pureF R_need_candidate
def b_need_layers : Ss :=
  (seq (sIf (sNot (sTru (sCall G__is_tuple 3 [0, 1, 2] (sCons (sVar 0) (sCons (sK (.int 1)) (sCons (sK (.int 8)) sNil))))))
  never
  skip)
  (seq (sSet 1 (sCall G__wrong_in_order 1 [0] (sCons (sVar 0) sNil)))
  (sIf (sBl (s2 (kIs true) (sVar 1) (sK .non)))
  never
  skip)))
abbrev R_need_layers : Fn := runB 2 b_need_layers
def G_need_layers : Fn := pureF R_need_layers
def b_need_size : Ss :=
  (sIf (sNot (sTru (sCall G_is_size 1 [0] (sCons (sVar 0) sNil))))
  never
  skip)
abbrev R_need_size : Fn := runB 1 b_need_size
def G_need_size : Fn := pureF R_need_size
def b_need_clues : Ss :=
  (seq (sIf (sNot (sTru (sCall G_is_text 4 [0, 1, 2, 3] (sCons (sVar 0) (sCons (sK (.str [109, 118, 63])) (sCons (sK (.int 0)) (sCons (s2 kSub (sK (.int 7)) (sK (.int 1))) sNil)))))))
  never
  skip)
  (seq (sIf (sBl (s2 (kIs true) (sBlt kTyp (sCons (sVar 1) sNil)) (sK (.ty "tuple"))))
  never
  skip)
  (sFor (sEnuX (sCons (sVar 1) sNil)) (gTp 2 (gsCons (gNm 2) (gsCons (gNm 3) gsNil)))
  (sIf (sOr (sBl (s2 kEq (sVar 2) (sK (.int 10)))) (sNot (sTru (sCall G__is_pair_of_pieces 2 [0, 1] (sCons (sVar 3) (sCons (sBlt kLen (sCons (sVar 0) sNil)) sNil))))))
  never
  skip))))
abbrev R_need_clues : Fn := runB 4 b_need_clues
def G_need_clues : Fn := pureF R_need_clues
def b_need_pieces : Ss :=
  (seq (sDrop (sCall G_need_number 3 [0, 1, 2] (sCons (sVar 1) (sCons (sK (.int 0)) (sCons (sVar 0) sNil)))))
  (seq (sDrop (sCall G_need_number 3 [0, 1, 2] (sCons (sVar 2) (sCons (sK (.int 0)) (sCons (sVar 0) sNil)))))
  (sIf (sBl (s2 kEq (sVar 1) (sVar 2)))
  never
  skip)))
abbrev R_need_pieces : Fn := runB 3 b_need_pieces
def G_need_pieces : Fn := pureF R_need_pieces
def b_hook : Ss :=
  (seq (sDrop (sCall G_need_number 3 [0, 1, 2] (sCons (sVar 0) (sCons (sK (.int 1)) (sCons (sK (.int 12)) sNil)))))
  (seq (sDrop (sCall G_need_number 3 [0, 1, 2] (sCons (sVar 1) (sCons (sK (.int 0)) (sCons (s2 kSub (sVar 0) (sK (.int 2))) sNil)))))
  (seq (sSet 2 (s2 kSub (s2 kSub (sVar 0) (sK (.int 2))) (sVar 1)))
  (sRet (s2 kAdd (s2 kAdd (s2 kAdd (s2 kAdd (s2 kAdd (s2 kMulS (sK (.str [40])) (sVar 1)) (sK (.str [40, 41]))) (s2 kMulS (sK (.str [40])) (sVar 2))) (s2 kMulS (sK (.str [41])) (sVar 2))) (sK (.str [40, 41]))) (s2 kMulS (sK (.str [41])) (sVar 1)))))))
abbrev R_hook : Fn := runB 3 b_hook
def G_hook : Fn := pureF R_hook
def b_need_spots : Ss :=
  (seq (sIf (sBl (s2 (kIs true) (sBlt kTyp (sCons (sVar 1) sNil)) (sK (.ty "tuple"))))
  never
  skip)
  (sFor (sEnuX (sCons (sVar 1) sNil)) (gTp 2 (gsCons (gNm 2) (gsCons (gNm 3) gsNil)))
  (sIf (sOr (sBl (s2 kEq (sVar 2) (sK (.int 20)))) (sNot (sTru (sCall G__is_spot 2 [0, 1] (sCons (sVar 3) (sCons (s2 kSub (s2 kShl (sK (.int 1)) (sVar 0)) (sK (.int 1))) sNil))))))
  never
  skip)))
abbrev R_need_spots : Fn := runB 4 b_need_spots
def G_need_spots : Fn := pureF R_need_spots
def b_nth_row : Ss :=
  (seq (sDrop (sCall G_need_number 3 [0, 1, 2] (sCons (sVar 0) (sCons (sK (.int 0)) (sCons (sK (.int 12)) sNil)))))
  (seq (sIf (sNot (sTru (sCall G_is_within 3 [0, 1, 2] (sCons (sVar 1) (sCons (sK (.int 0)) (sCons (s2 kSub (sCall G_count_rows 1 [0] (sCons (sVar 0) sNil)) (sK (.int 1))) sNil))))))
  never
  skip)
  (seq (sSet 2 (sLst sNil))
  (seq (sSet 3 (sVar 0))
  (seq (sSet 4 (sVar 0))
  (seq (sSet 5 (sVar 1))
  (seq (whl (sBl (s2 kGt (sVar 4) (sK (.int 0))))
  (seq (sSet 6 (sCall G__count_endings 2 [0, 1] (sCons (s2 kSub (sVar 3) (sK (.int 1))) (sCons (sVar 4) sNil))))
  (sIf (sBl (s2 kLt (sVar 5) (sVar 6)))
  (seq (sDrop (sMth "list" kApp (sVar 2) (sCons (sK (.str [40])) sNil)))
  (sAug kSub 3 (sK (.int 1))))
  (seq (sDrop (sMth "list" kApp (sVar 2) (sCons (sK (.str [41])) sNil)))
  (seq (sAug kSub 4 (sK (.int 1)))
  (sAug kSub 5 (sVar 6)))))) 1000)
  (sRet (sMth "str" kJoin (sK (.str [])) (sCons (sVar 2) sNil))))))))))
abbrev R_nth_row : Fn := runB 7 b_nth_row
def G_nth_row : Fn := pureF R_nth_row
def b_index_of_row : Ss :=
  (seq (sDrop (sCall G_need_row 1 [0] (sCons (sVar 0) sNil)))
  (seq (sSet 1 (sK (.int 0)))
  (seq (sSet 2 (s2 kFdv (sBlt kLen (sCons (sVar 0) sNil)) (sK (.int 2))))
  (seq (sSet 3 (sVar 2))
  (seq (sFor (sItr (sVar 0)) (gNm 4)
  (sIf (sBl (s2 kEq (sVar 4) (sK (.str [40]))))
  (sAug kSub 2 (sK (.int 1)))
  (seq (sAug kIad 1 (sCall G__count_endings 2 [0, 1] (sCons (s2 kSub (sVar 2) (sK (.int 1))) (sCons (sVar 3) sNil))))
  (sAug kSub 3 (sK (.int 1))))))
  (sRet (sVar 1)))))))
abbrev R_index_of_row : Fn := runB 5 b_index_of_row
def G_index_of_row : Fn := pureF R_index_of_row
def b_need_rows : Ss :=
  (seq (sDrop (sCall G_need_row 1 [0] (sCons (sVar 0) sNil)))
  (seq (sDrop (sCall G_need_row 1 [0] (sCons (sVar 1) sNil)))
  (sIf (sBl (s2 kNe (sBlt kLen (sCons (sVar 0) sNil)) (sBlt kLen (sCons (sVar 1) sNil))))
  never
  skip)))
abbrev R_need_rows : Fn := runB 2 b_need_rows
def G_need_rows : Fn := pureF R_need_rows
def b_mate : Ss :=
  (seq (sDrop (sCall G_need_row 1 [0] (sCons (sVar 0) sNil)))
  (seq (sDrop (sCall G_need_foot 2 [0, 1] (sCons (sVar 0) (sCons (sVar 1) sNil))))
  (sRet (s2 kIx (sCall G_mates_of 1 [0] (sCons (sVar 0) sNil)) (sVar 1)))))
abbrev R_mate : Fn := runB 2 b_mate
def G_mate : Fn := pureF R_mate
def b_arches : Ss :=
  (seq (sDrop (sCall G_need_row 1 [0] (sCons (sVar 0) sNil)))
  (sRet (sBlt kTpl (sCons (sLc (sEnuT (sCons (sCall G_mates_of 1 [0] (sCons (sVar 0) sNil)) sNil)) (gTp 2 (gsCons (gNm 1) (gsCons (gNm 2) gsNil))) (sBl (s2 kLt (sVar 1) (sVar 2))) (sTup (sCons (sVar 1) (sCons (sVar 2) sNil))) [1, 2]) sNil))))
abbrev R_arches : Fn := runB 3 b_arches
def G_arches : Fn := pureF R_arches
def b_depth : Ss :=
  (seq (sDrop (sCall G_need_row 1 [0] (sCons (sVar 0) sNil)))
  (seq (sSet 1 (sK (.int 0)))
  (seq (sSet 2 (sK (.int 0)))
  (seq (sFor (sItr (sVar 0)) (gNm 3)
  (seq (sAug kIad 1 (sIte (sBl (s2 kEq (sVar 3) (sK (.str [40])))) (sK (.int 1)) (s1 kNeg (sK (.int 1)))))
  (sSet 2 (sBlt kMax (sCons (sVar 2) (sCons (sVar 1) sNil))))))
  (sRet (sVar 2))))))
abbrev R_depth : Fn := runB 4 b_depth
def G_depth : Fn := pureF R_depth
def b_count_short : Ss :=
  (seq (sDrop (sCall G_need_row 1 [0] (sCons (sVar 0) sNil)))
  (sRet (sMth "str" kCnt (sVar 0) (sCons (sK (.str [40, 41])) sNil))))
abbrev R_count_short : Fn := runB 1 b_count_short
def G_count_short : Fn := pureF R_count_short
def b_turned : Ss :=
  (seq (sDrop (sCall G_need_row 1 [0] (sCons (sVar 0) sNil)))
  (seq (sIf (sBl (s2 kEq (sVar 0) (sK (.str []))))
  (sRet (sVar 0))
  skip)
  (seq (sSet 1 (s2 kIx (sCall G_mates_of 1 [0] (sCons (sVar 0) sNil)) (sK (.int 0))))
  (sRet (s2 kAdd (s2 kAdd (s2 kAdd (sSl (sVar 0) (sSo (sK (.int 1))) (sSo (sVar 1))) (sK (.str [40]))) (sSl (sVar 0) (sSo (s2 kAdd (sVar 1) (sK (.int 1)))) sNo)) (sK (.str [41])))))))
abbrev R_turned : Fn := runB 2 b_turned
def G_turned : Fn := pureF R_turned
def b_mirrored : Ss :=
  (seq (sDrop (sCall G_need_row 1 [0] (sCons (sVar 0) sNil)))
  (sRet (sMth "str" kJoin (sK (.str [])) (sCons (sLc (sItr (s1 kRev (sVar 0))) (gNm 1) tru (sIte (sBl (s2 kEq (sVar 1) (sK (.str [40])))) (sK (.str [41])) (sK (.str [40]))) [1]) sNil))))
abbrev R_mirrored : Fn := runB 2 b_mirrored
def G_mirrored : Fn := pureF R_mirrored
def b_blocks : Ss :=
  (seq (sDrop (sCall G_need_row 1 [0] (sCons (sVar 0) sNil)))
  (seq (sSet 1 (sCall G_mates_of 1 [0] (sCons (sVar 0) sNil)))
  (seq (sSet 2 (sLst sNil))
  (seq (sSet 3 (sK (.int 0)))
  (seq (whl (sBl (s2 kLt (sVar 3) (sBlt kLen (sCons (sVar 0) sNil))))
  (seq (sSet 4 (s2 kAdd (s2 kIx (sVar 1) (sVar 3)) (sK (.int 1))))
  (seq (sDrop (sMth "list" kApp (sVar 2) (sCons (sSl (sVar 0) (sSo (sVar 3)) (sSo (sVar 4))) sNil)))
  (sSet 3 (sVar 4)))) 1000)
  (sRet (sBlt kTpl (sCons (sVar 2) sNil))))))))
abbrev R_blocks : Fn := runB 5 b_blocks
def G_blocks : Fn := pureF R_blocks
def b_exchanged : Ss :=
  (seq (sDrop (sCall G_need_row 1 [0] (sCons (sVar 0) sNil)))
  (seq (sDrop (sCall G_need_foot 2 [0, 1] (sCons (sVar 0) (sCons (sVar 1) sNil))))
  (seq (sDrop (sCall G_need_foot 2 [0, 1] (sCons (sVar 0) (sCons (sVar 2) sNil))))
  (seq (sSet 3 (sCall G_exchange_in 3 [0, 1, 2] (sCons (sCall G_mates_of 1 [0] (sCons (sVar 0) sNil)) (sCons (sVar 1) (sCons (sVar 2) sNil)))))
  (seq (sIf (sBl (s2 (kIs false) (sVar 3) (sK .non)))
  never
  skip)
  (sRet (sVar 3)))))))
abbrev R_exchanged : Fn := runB 4 b_exchanged
def G_exchanged : Fn := pureF R_exchanged
def b_neighbours : Ss :=
  (seq (sDrop (sCall G_need_row 1 [0] (sCons (sVar 0) sNil)))
  (seq (sSet 1 (sCall G_mates_of 1 [0] (sCons (sVar 0) sNil)))
  (seq (sSet 2 (sLst sNil))
  (seq (sFor (sRg1 (sCons (sBlt kLen (sCons (sVar 0) sNil)) sNil)) (gNm 3)
  (sFor (sRg2 (sCons (s2 kAdd (sVar 3) (sK (.int 1))) (sCons (sBlt kLen (sCons (sVar 0) sNil)) sNil))) (gNm 4)
  (sIf (sAnd (sBl (s2 kLt (sVar 3) (s2 kIx (sVar 1) (sVar 3)))) (sBl (s2 kLt (sVar 4) (s2 kIx (sVar 1) (sVar 4)))))
  (seq (sSet 5 (sCall G_exchange_in 3 [0, 1, 2] (sCons (sVar 1) (sCons (sVar 3) (sCons (sVar 4) sNil)))))
  (sIf (sBl (s2 (kIs true) (sVar 5) (sK .non)))
  (sDrop (sMth "list" kApp (sVar 2) (sCons (sVar 5) sNil)))
  skip))
  skip)))
  (sRet (sBlt kTpl (sCons (sBlt kSrtI (sCons (sVar 2) sNil)) sNil)))))))
abbrev R_neighbours : Fn := runB 6 b_neighbours
def G_neighbours : Fn := pureF R_neighbours
def b_chain : Ss :=
  (seq (sDrop (sCall G_need_number 3 [0, 1, 2] (sCons (sVar 0) (sCons (sK (.int 0)) (sCons (sK (.int 40)) sNil)))))
  (seq (sDrop (sCall G__need_worth 1 [0] (sCons (sVar 1) sNil)))
  (seq (sSet 2 (sK (.int 0)))
  (seq (sSet 3 (sK (.int 1)))
  (seq (sFor (sRg1 (sCons (sVar 0) sNil)) (gNm 4)
  (sPar [2, 3] (sCons (sVar 3) (sCons (s2 kSub (s2 kMul (sVar 1) (sVar 3)) (sVar 2)) sNil))))
  (sRet (sVar 3)))))))
abbrev R_chain : Fn := runB 5 b_chain
def G_chain : Fn := pureF R_chain
def b_strands : Ss :=
  (seq (sDrop (sCall G_need_row 1 [0] (sCons (sVar 0) sNil)))
  (seq (sSet 1 (sSl (sVar 0) sNo (sSo (s2 kFdv (sBlt kLen (sCons (sVar 0) sNil)) (sK (.int 2))))))
  (sRet (s2 kSub (sMth "str" kCnt (sVar 1) (sCons (sK (.str [40])) sNil)) (sMth "str" kCnt (sVar 1) (sCons (sK (.str [41])) sNil))))))
abbrev R_strands : Fn := runB 2 b_strands
def G_strands : Fn := pureF R_strands
def b_need_tangle : Ss :=
  (seq (sDrop (sCall G_need_row 1 [0] (sCons (sVar 0) sNil)))
  (sIf (sBl (s2 kEq (sVar 0) (sK (.str []))))
  never
  skip))
abbrev R_need_tangle : Fn := runB 1 b_need_tangle
def G_need_tangle : Fn := pureF R_need_tangle
def b_need_layers_of : Ss :=
  (seq (sIf (sNot (sTru (sCall G__is_tuple 3 [0, 1, 2] (sCons (sVar 1) (sCons (sVar 0) (sCons (sVar 0) sNil))))))
  never
  skip)
  (sDrop (sCall G_need_layers 1 [0] (sCons (sVar 1) sNil))))
abbrev R_need_layers_of : Fn := runB 2 b_need_layers_of
def G_need_layers_of : Fn := pureF R_need_layers_of
def b_all_rows : Ss :=
  (seq (sDrop (sCall G_need_number 3 [0, 1, 2] (sCons (sVar 0) (sCons (sK (.int 0)) (sCons (sK (.int 7)) sNil)))))
  (sRet (sBlt kTpl (sCons (sLc (sRg1 (sCons (sCall G_count_rows 1 [0] (sCons (sVar 0) sNil)) sNil)) (gNm 1) tru (sCall G_nth_row 2 [0, 1] (sCons (sVar 0) (sCons (sVar 1) sNil))) [1]) sNil))))
abbrev R_all_rows : Fn := runB 2 b_all_rows
def G_all_rows : Fn := pureF R_all_rows
def b_rounds : Ss :=
  (seq (sDrop (sCall G_need_rows 2 [0, 1] (sCons (sVar 0) (sCons (sVar 1) sNil))))
  (sRet (sBlt kTpl (sCons (sCall G__rounds_of_mates 2 [0, 1] (sCons (sCall G_mates_of 1 [0] (sCons (sVar 0) sNil)) (sCons (sCall G_mates_of 1 [0] (sCons (sVar 1) sNil)) sNil))) sNil))))
abbrev R_rounds : Fn := runB 2 b_rounds
def G_rounds : Fn := pureF R_rounds
def b_weight : Ss :=
  (seq (sDrop (sCall G_need_number 3 [0, 1, 2] (sCons (sVar 0) (sCons (sK (.int 1)) (sCons (sK (.int 4)) sNil)))))
  (seq (sDrop (sCall G__need_worth 1 [0] (sCons (sVar 1) sNil)))
  (seq (sSet 2 (sK (.int 1)))
  (seq (sFor (sEnuX (sCons (sCall G_powers 1 [0] (sCons (sVar 0) sNil)) sNil)) (gTp 2 (gsCons (gNm 3) (gsCons (gNm 4) gsNil)))
  (sSet 2 (s2 kMulZ (sVar 2) (sCall G__power 2 [0, 1] (sCons (sCall G_chain 2 [0, 1] (sCons (s2 kAdd (sVar 3) (sK (.int 1))) (sCons (sVar 1) sNil))) (sCons (sVar 4) sNil))))))
  (sRet (sVar 2))))))
abbrev R_weight : Fn := runB 5 b_weight
def G_weight : Fn := pureF R_weight
def b_flip : Ss :=
  (seq (sDrop (sCall G_need_row 1 [0] (sCons (sVar 0) sNil)))
  (sRet (sCall G_mirrored 1 [0] (sCons (sVar 0) sNil))))
abbrev R_flip : Fn := runB 1 b_flip
def G_flip : Fn := pureF R_flip
def b_product : Ss :=
  (seq (sDrop (sCall G_need_rows 2 [0, 1] (sCons (sVar 0) (sCons (sVar 1) sNil))))
  (seq (sSet 2 (sCall G_mates_of 1 [0] (sCons (sVar 0) sNil)))
  (seq (sSet 3 (sCall G_mates_of 1 [0] (sCons (sVar 1) sNil)))
  (seq (sSet 4 (s2 kMul (sLst (sCons (sK (.bl false)) sNil)) (s2 kFdv (sBlt kLen (sCons (sVar 0) sNil)) (sK (.int 2)))))
  (seq (sSet 5 (sLc (sRg1 (sCons (sBlt kLen (sCons (sVar 0) sNil)) sNil)) (gNm 6) tru (sCall G__follow 4 [0, 1, 2, 3] (sCons (sVar 2) (sCons (sVar 3) (sCons (sVar 6) (sCons (sVar 4) sNil))))) [6]))
  (sRet (sTup (sCons (sCall G_row_of_mates 1 [0] (sCons (sVar 5) sNil)) (sCons (sCall G__count_closed 3 [0, 1, 2] (sCons (sVar 2) (sCons (sVar 3) (sCons (sVar 4) sNil)))) sNil)))))))))
abbrev R_product : Fn := runB 7 b_product
def G_product : Fn := pureF R_product
def b_first_crossing : Ss :=
  (seq (sFor (sEnuT (sCons (sVar 0) sNil)) (gTp 2 (gsCons (gNm 1) (gsCons (gNm 2) gsNil)))
  (sFor (sItr (sSl (sVar 0) (sSo (s2 kAdd (sVar 1) (sK (.int 1)))) sNo)) (gNm 3)
  (sIf (sTru (sCall G_is_crossing 2 [0, 1] (sCons (sVar 2) (sCons (sVar 3) sNil))))
  (sRet (sTup (sCons (sVar 2) (sCons (sVar 3) sNil))))
  skip)))
  (sRet (sK .non)))
abbrev R_first_crossing : Fn := runB 4 b_first_crossing
@[irreducible] def G_first_crossing : Fn := R_first_crossing
theorem g_first_crossing (xs : List Va) (h : Hs) (_ : xs.length = 1) (_ : G_first_crossing xs h ≠ .bad) : R_first_crossing xs h = G_first_crossing xs h := by unfold G_first_crossing; rfl
def b_is_river : Ss :=
  (seq (sDrop (sCall G_need_rows 2 [0, 1] (sCons (sVar 0) (sCons (sVar 1) sNil))))
  (sRet (sCall G__is_one_round 2 [0, 1] (sCons (sCall G_mates_of 1 [0] (sCons (sVar 0) sNil)) (sCons (sCall G_mates_of 1 [0] (sCons (sVar 1) sNil)) sNil)))))
abbrev R_is_river : Fn := runB 2 b_is_river
def G_is_river : Fn := pureF R_is_river
def b__row_with : Ss :=
  (seq (sSet 1 (s2 kMul (sLst (sCons (sK (.str [41])) sNil)) (s2 kMul (sK (.int 2)) (sBlt kLen (sCons (sVar 0) sNil)))))
  (seq (sFor (sItr (sVar 0)) (gTp 2 (gsCons (gNm 2) (gsCons (gNm 3) gsNil)))
  (sAsg (sK (.str [40])) (gSb (sVar 1) (sVar 2))))
  (sRet (sMth "str" kJoin (sK (.str [])) (sCons (sVar 1) sNil)))))
abbrev R__row_with : Fn := runB 4 b__row_with
@[irreducible] def G__row_with : Fn := R__row_with
theorem g__row_with (xs : List Va) (h : Hs) (_ : xs.length = 1) (_ : G__row_with xs h ≠ .bad) : R__row_with xs h = G__row_with xs h := by unfold G__row_with; rfl
def b_count_rounds : Ss :=
  (sRet (sBlt kLen (sCons (sCall G_rounds 2 [0, 1] (sCons (sVar 0) (sCons (sVar 1) sNil))) sNil)))
abbrev R_count_rounds : Fn := runB 2 b_count_rounds
def G_count_rounds : Fn := pureF R_count_rounds
def b__round_counts : Ss :=
  (seq (sSet 1 (sLc (sItr (sCall G_all_rows 1 [0] (sCons (sVar 0) sNil))) (gNm 2) tru (sCall G_mates_of 1 [0] (sCons (sVar 2) sNil)) [2]))
  (sRet (sLc (sItr (sVar 1)) (gNm 3) tru (sLc (sItr (sVar 1)) (gNm 4) tru (sBlt kLen (sCons (sCall G__rounds_of_mates 2 [0, 1] (sCons (sVar 3) (sCons (sVar 4) sNil))) sNil)) [4]) [3])))
abbrev R__round_counts : Fn := runB 5 b__round_counts
@[irreducible] def G__round_counts : Fn := R__round_counts
theorem g__round_counts (xs : List Va) (h : Hs) (_ : xs.length = 1) (_ : G__round_counts xs h ≠ .bad) : R__round_counts xs h = G__round_counts xs h := by unfold G__round_counts; rfl
def b_path : Ss :=
  (seq (sIf (sNot (sTru (sCall G_is_river 2 [0, 1] (sCons (sVar 0) (sCons (sVar 1) sNil)))))
  never
  skip)
  (sRet (sBlt kTpl (sCons (sCall G_walk_from 3 [0, 1, 2] (sCons (sCall G_mates_of 1 [0] (sCons (sVar 0) sNil)) (sCons (sCall G_mates_of 1 [0] (sCons (sVar 1) sNil)) (sCons (sK (.int 0)) sNil)))) sNil))))
abbrev R_path : Fn := runB 2 b_path
def G_path : Fn := pureF R_path
def b_meeting : Ss :=
  (seq (sDrop (sCall G_need_candidate 1 [0] (sCons (sVar 0) sNil)))
  (seq (sAsg (sCall G_arches_along 1 [0] (sCons (sVar 0) sNil)) (gTp 2 (gsCons (gNm 1) (gsCons (gNm 2) gsNil))))
  (seq (sSet 3 (sCall G_first_crossing 1 [0] (sCons (sVar 1) sNil)))
  (sRet (sIte (sBl (s2 (kIs false) (sVar 3) (sK .non))) (sCall G_first_crossing 1 [0] (sCons (sVar 2) sNil)) (sVar 3))))))
abbrev R_meeting : Fn := runB 4 b_meeting
def G_meeting : Fn := pureF R_meeting
def b_least_word : Ss :=
  (seq (sDrop (sCall G_need_tangle 1 [0] (sCons (sVar 0) sNil)))
  (seq (sSet 1 (s2 kFdv (sBlt kLen (sCons (sVar 0) sNil)) (sK (.int 2))))
  (seq (sIf (sBl (s2 kGt (sVar 1) (sK (.int 6))))
  never
  skip)
  (seq (sSet 2 (sLc (sRg1 (sCons (s2 kSub (sVar 1) (sK (.int 1))) sNil)) (gNm 7) tru (sCall G_hook 2 [0, 1] (sCons (sVar 1) (sCons (sVar 7) sNil))) [7]))
  (seq (sSet 3 (sDsp [((sCall G_unit 1 [0] (sCons (sVar 1) sNil)), (sTup sNil))]))
  (seq (sSet 4 (sLst (sCons (sCall G_unit 1 [0] (sCons (sVar 1) sNil)) sNil)))
  (seq (whl (sBl (s2 (kInX true) (sVar 0) (sVar 3)))
  (seq (sSet 5 (sLst sNil))
  (seq (sFor (sItr (sVar 4)) (gNm 6)
  (sFor (sEnuT (sCons (sVar 2) sNil)) (gTp 2 (gsCons (gNm 7) (gsCons (gNm 8) gsNil)))
  (seq (sAsg (sCall G_product 2 [0, 1] (sCons (sVar 6) (sCons (sVar 8) sNil))) (gTp 2 (gsCons (gNm 9) (gsCons (gNm 10) gsNil))))
  (sIf (sAnd (sBl (s2 kEq (sVar 10) (sK (.int 0)))) (sBl (s2 (kInX true) (sVar 9) (sVar 3))))
  (seq (sAsg (s2 kAddW (s2 kIxD (sVar 3) (sVar 6)) (sTup (sCons (sVar 7) sNil))) (gSbD (sVar 3) (sVar 9)))
  (sDrop (sMth "list" kApp (sVar 5) (sCons (sVar 9) sNil))))
  skip))))
  (sSet 4 (sVar 5)))) 1000)
  (sRet (s2 kIxD (sVar 3) (sVar 0))))))))))
abbrev R_least_word : Fn := runB 11 b_least_word
def G_least_word : Fn := pureF R_least_word
def b_tangles_along : Ss :=
  (seq (sSet 2 (sLst (sCons (sCall G_unit 1 [0] (sCons (sVar 0) sNil)) sNil)))
  (seq (sSet 3 (sK (.int 0)))
  (seq (sFor (sItr (sVar 1)) (gNm 4)
  (seq (sAsg (sCall G_product 2 [0, 1] (sCons (s2 kIx (sVar 2) (s1 kNeg (sK (.int 1)))) (sCons (sCall G_hook 2 [0, 1] (sCons (sVar 0) (sCons (sVar 4) sNil))) sNil))) (gTp 2 (gsCons (gNm 5) (gsCons (gNm 6) gsNil))))
  (seq (sDrop (sMth "list" kApp (sVar 2) (sCons (sVar 5) sNil)))
  (sAug kIad 3 (sVar 6)))))
  (sRet (sTup (sCons (sBlt kTpl (sCons (sVar 2) sNil)) (sCons (sVar 3) sNil)))))))
abbrev R_tangles_along : Fn := runB 7 b_tangles_along
def G_tangles_along : Fn := pureF R_tangles_along
def b_spread : Ss :=
  (seq (sDrop (sCall G_need_number 3 [0, 1, 2] (sCons (sVar 0) (sCons (sK (.int 1)) (sCons (sK (.int 5)) sNil)))))
  (seq (sSet 1 (s2 kMul (sLst (sCons (sK (.int 0)) sNil)) (sVar 0)))
  (seq (sFor (sItr (sCall G__round_counts 1 [0] (sCons (sVar 0) sNil))) (gNm 2)
  (sFor (sItr (sVar 2)) (gNm 3)
  (sAugS kIad (sVar 1) (s2 kSub (sVar 3) (sK (.int 1))) (sK (.int 1)))))
  (sRet (sBlt kTpl (sCons (sVar 1) sNil))))))
abbrev R_spread : Fn := runB 4 b_spread
def G_spread : Fn := pureF R_spread
def b_weights : Ss :=
  (seq (sDrop (sCall G_need_number 3 [0, 1, 2] (sCons (sVar 0) (sCons (sK (.int 1)) (sCons (sK (.int 4)) sNil)))))
  (seq (sDrop (sCall G__need_worth 1 [0] (sCons (sVar 1) sNil)))
  (sRet (sBlt kTpl (sCons (sLc (sItr (sCall G__round_counts 1 [0] (sCons (sVar 0) sNil))) (gNm 2) tru (sBlt kTpl (sCons (sLc (sItr (sVar 2)) (gNm 3) tru (sCall G__power 2 [0, 1] (sCons (sVar 1) (sCons (sVar 3) sNil))) [3]) sNil)) [2]) sNil)))))
abbrev R_weights : Fn := runB 4 b_weights
def G_weights : Fn := pureF R_weights
def b_closed : Ss :=
  (seq (sDrop (sCall G_need_tangle 1 [0] (sCons (sVar 0) sNil)))
  (sRet (sCall G_count_rounds 2 [0, 1] (sCons (sVar 0) (sCons (sCall G_unit 1 [0] (sCons (s2 kFdv (sBlt kLen (sCons (sVar 0) sNil)) (sK (.int 2))) sNil)) sNil)))))
abbrev R_closed : Fn := runB 1 b_closed
def G_closed : Fn := pureF R_closed
def b_river_of : Ss :=
  (seq (sIf (sBl (s2 (kIs true) (sCall G_meeting 1 [0] (sCons (sVar 0) sNil)) (sK .non)))
  (sRet (sK .non))
  skip)
  (seq (sAsg (sCall G_arches_along 1 [0] (sCons (sVar 0) sNil)) (gTp 2 (gsCons (gNm 1) (gsCons (gNm 2) gsNil))))
  (sRet (sTup (sCons (sCall G__row_with 1 [0] (sCons (sVar 1) sNil)) (sCons (sCall G__row_with 1 [0] (sCons (sVar 2) sNil)) sNil))))))
abbrev R_river_of : Fn := runB 3 b_river_of
def G_river_of : Fn := pureF R_river_of
def b_made_of : Ss :=
  (seq (sDrop (sCall G_need_number 3 [0, 1, 2] (sCons (sVar 0) (sCons (sK (.int 1)) (sCons (sK (.int 12)) sNil)))))
  (seq (sDrop (sCall G_need_hooks 2 [0, 1] (sCons (sVar 0) (sCons (sVar 1) sNil))))
  (seq (sAsg (sCall G_tangles_along 2 [0, 1] (sCons (sVar 0) (sCons (sVar 1) sNil))) (gTp 2 (gsCons (gNm 2) (gsCons (gNm 3) gsNil))))
  (sRet (sTup (sCons (s2 kIx (sVar 2) (s1 kNeg (sK (.int 1)))) (sCons (sVar 3) sNil)))))))
abbrev R_made_of : Fn := runB 4 b_made_of
def G_made_of : Fn := pureF R_made_of
end Pg

set_option autoImplicit false
namespace Dw
/-- in how many ways a row ends that has so many feet left and stands so high -/
def W : Nat → Nat → Nat
  | 0, 0 => 1
  | 0, _ + 1 => 0
  | l + 1, 0 => W l 1
  | l + 1, h + 1 => W l (h + 2) + W l h
def D : Nat → List Nat → Prop
  | h, [] => h = 0
  | h, c :: s => (c = 40 ∧ D (h + 1) s) ∨ (c = 41 ∧ ∃ g, h = g + 1 ∧ D g s)
def idx : Nat → List Nat → Nat
  | _, [] => 0
  | h, c :: s => if c = 40 then idx (h + 1) s else W s.length (h + 1) + idx (h - 1) s
def nth : Nat → Nat → Nat → List Nat
  | 0, _, _ => []
  | l + 1, h, i => if i < W l (h + 1) then 40 :: nth l (h + 1) i else 41 :: nth l (h - 1) (i - W l (h + 1))
theorem idx_o (h : Nat) (s : List Nat) : idx h (40 :: s) = idx (h + 1) s := by rw [idx, if_pos rfl]
theorem idx_c (h : Nat) (s : List Nat) : idx h (41 :: s) = W s.length (h + 1) + idx (h - 1) s := by rw [idx, if_neg (by decide)]
theorem nth_len : ∀ l h i, (nth l h i).length = l
  | 0, _, _ => rfl
  | l + 1, h, i => by
    unfold nth
    split <;> simp [nth_len l]
theorem nth_D : ∀ l h i, i < W l h → D h (nth l h i)
  | 0, 0, _, _ => rfl
  | 0, h + 1, i, q => by simp [W] at q
  | l + 1, 0, i, q => by
    unfold nth
    rw [if_pos (by simpa [W] using q)]
    exact .inl ⟨rfl, nth_D l 1 i (by simpa [W] using q)⟩
  | l + 1, h + 1, i, q => by
    unfold nth
    split
    · rename_i c
      exact .inl ⟨rfl, nth_D l _ i c⟩
    · rename_i c
      refine .inr ⟨rfl, h, rfl, nth_D l h _ ?_⟩
      simp only [W] at q
      have e : h + 1 + 1 = h + 2 := rfl
      rw [e] at c ⊢
      omega
theorem idx_lt : ∀ s h, D h s → idx h s < W s.length h
  | [], h, q => by cases q; simp [idx, W]
  | c :: s, h, q => by
    rcases q with ⟨rfl, q⟩ | ⟨rfl, g, rfl, q⟩
    · have := idx_lt s _ q
      unfold idx
      rw [if_pos rfl]
      cases h with
      | zero => simpa [W] using this
      | succ h =>
        have e : h + 1 + 1 = h + 2 := rfl
        rw [e] at this ⊢
        simp only [List.length_cons, W]; omega
    · have := idx_lt s _ q
      unfold idx
      rw [if_neg (by decide)]
      have e : g + 1 + 1 = g + 2 := rfl
      rw [e]
      simp only [List.length_cons, W, Nat.add_sub_cancel]
      omega
theorem nth_idx : ∀ s h, D h s → nth s.length h (idx h s) = s
  | [], h, q => rfl
  | c :: s, h, q => by
    rcases q with ⟨rfl, q⟩ | ⟨rfl, g, rfl, q⟩
    · have := idx_lt s _ q
      unfold idx
      rw [if_pos rfl, List.length_cons]
      unfold nth
      rw [if_pos this, nth_idx s _ q]
    · unfold idx
      rw [if_neg (by decide), List.length_cons]
      unfold nth
      rw [if_neg (by omega), Nat.add_sub_cancel, Nat.add_sub_cancel_left, nth_idx s _ q]
theorem idx_nth : ∀ l h i, i < W l h → idx h (nth l h i) = i
  | 0, 0, i, q => by simp [W] at q; simp [nth, idx, q]
  | 0, h + 1, i, q => by simp [W] at q
  | l + 1, 0, i, q => by
    unfold nth
    rw [if_pos (by simpa [W] using q)]
    unfold idx
    rw [if_pos rfl, idx_nth l 1 i (by simpa [W] using q)]
  | l + 1, h + 1, i, q => by
    unfold nth
    split
    · rename_i c
      unfold idx
      rw [if_pos rfl, idx_nth l _ i c]
    · rename_i c
      unfold idx
      rw [if_neg (by decide), nth_len, Nat.add_sub_cancel, idx_nth l h]
      · omega
      · simp only [W] at q
        have e : h + 1 + 1 = h + 2 := rfl
        rw [e] at c ⊢
        omega
theorem nth_up : ∀ l h i, i + 1 < W l h → nth l h i < nth l h (i + 1)
  | 0, 0, i, q => by simp [W] at q
  | 0, h + 1, i, q => by simp [W] at q
  | l + 1, h, i, q => by
    unfold nth
    by_cases c : i + 1 < W l (h + 1)
    · rw [if_pos c, if_pos (by omega)]
      exact List.cons_lt_cons_iff.mpr (.inr ⟨rfl, nth_up l _ i c⟩)
    · rw [if_neg c]
      by_cases c1 : i < W l (h + 1)
      · rw [if_pos c1]
        exact List.cons_lt_cons_iff.mpr (.inl (by decide))
      · rw [if_neg c1]
        have e : i + 1 - W l (h + 1) = i - W l (h + 1) + 1 := by omega
        rw [e]
        refine List.cons_lt_cons_iff.mpr (.inr ⟨rfl, nth_up l _ _ ?_⟩)
        cases h with
        | zero =>
          simp only [W] at q
          have e : 0 + 1 = 1 := rfl
          rw [e] at c
          exact absurd q c
        | succ h =>
          simp only [W] at q
          have e : h + 1 + 1 = h + 2 := rfl
          rw [e] at c1 c ⊢
          rw [Nat.add_sub_cancel]
          omega
/-- how many "(" -/
theorem D_count : ∀ s h, D h s → 2 * s.count 40 + h = s.length
  | [], h, q => by cases q; rfl
  | c :: s, h, q => by
    rcases q with ⟨rfl, q⟩ | ⟨rfl, g, rfl, q⟩
    · have := D_count s _ q
      simp only [List.count_cons_self, List.length_cons]
      omega
    · have := D_count s _ q
      simp only [List.length_cons]
      rw [List.count_cons_of_ne (by decide)]
      omega
theorem D_le : ∀ s h, D h s → h ≤ s.length ∧ (h + s.length) % 2 = 0 := fun s h q => by
  have := D_count s h q
  omega
theorem W_pos : ∀ l h, h ≤ l → (h + l) % 2 = 0 → 0 < W l h
  | 0, 0, _, _ => by decide
  | 0, h + 1, q, _ => by omega
  | l + 1, 0, _, q => by
    unfold W
    cases l with
    | zero => omega
    | succ l => exact W_pos (l + 1) 1 (by omega) (by omega)
  | l + 1, h + 1, q, q2 => by
    unfold W
    have := W_pos l h (by omega) (by omega)
    omega
theorem D_head {c : Nat} {s : List Nat} {h : Nat} (q : D h (c :: s)) : c = 40 ∨ c = 41 := by
  rcases q with ⟨e, _⟩ | ⟨e, _⟩
  · exact .inl e
  · exact .inr e
/-- all of them in their order -/
def all : Nat → Nat → List (List Nat)
  | 0, 0 => [[]]
  | 0, _ + 1 => []
  | l + 1, 0 => (all l 1).map (40 :: ·)
  | l + 1, h + 1 => (all l (h + 2)).map (40 :: ·) ++ (all l h).map (41 :: ·)
theorem all_eq : ∀ l h, (List.range (W l h)).map (nth l h) = all l h
  | 0, 0 => rfl
  | 0, h + 1 => rfl
  | l + 1, 0 => by
    simp only [W, all]
    rw [← all_eq l 1, List.map_map]
    refine List.map_congr_left fun i hi => ?_
    rw [List.mem_range] at hi
    show nth (l + 1) 0 i = 40 :: nth l 1 i
    conv => lhs; unfold nth
    rw [if_pos (by simpa using hi)]
  | l + 1, h + 1 => by
    simp only [W, all]
    rw [← all_eq l (h + 2), ← all_eq l h, List.range_add, List.map_append, List.map_map, List.map_map, List.map_map]
    congr 1
    · refine List.map_congr_left fun i hi => ?_
      rw [List.mem_range] at hi
      show nth (l + 1) (h + 1) i = 40 :: nth l (h + 2) i
      conv => lhs; unfold nth
      rw [if_pos hi]
    · refine List.map_congr_left fun i hi => ?_
      show nth (l + 1) (h + 1) (W l (h + 2) + i) = 41 :: nth l h i
      conv => lhs; unfold nth
      have e : h + 1 + 1 = h + 2 := rfl
      rw [e, if_neg (by omega), Nat.add_sub_cancel, Nat.add_sub_cancel_left]
/-- a row of the table of W -/
def wrow (m : Nat) : Nat → List Nat
  | 0 => 1 :: List.replicate m 0
  | l + 1 => match wrow m l with
    | a :: b :: r => b :: List.zipWith (· + ·) r (a :: b :: r)
    | _ => []
theorem wrow_len (m : Nat) : ∀ l, l ≤ m → (wrow m l).length = m + 1 - l
  | 0, _ => by simp [wrow]
  | l + 1, q => by
    have ih := wrow_len m l (by omega)
    unfold wrow
    match e : wrow m l with
    | [] => rw [e] at ih; simp at ih; omega
    | [a] => rw [e] at ih; simp at ih; omega
    | a :: b :: r => rw [e] at ih; simp at ih ⊢; omega
theorem wrow_at (m : Nat) : ∀ l k, l ≤ m → k < m + 1 - l → (wrow m l)[k]? = some (W l k)
  | 0, 0, _, _ => rfl
  | 0, k + 1, _, q => by
    simp only [wrow, W, List.getElem?_cons_succ]
    rw [List.getElem?_replicate, if_pos (by omega)]
  | l + 1, k, q, q2 => by
    have ln := wrow_len m l (by omega)
    have ih := fun j => wrow_at m l j (by omega)
    unfold wrow
    match e : wrow m l with
    | [] => rw [e] at ln; simp at ln; omega
    | [a] => rw [e] at ln; simp at ln; omega
    | a :: b :: r =>
      rw [e] at ih ln
      simp only [List.length_cons] at ln
      cases k with
      | zero => have := ih 1 (by omega); simpa [W] using this
      | succ k =>
        have h1 := ih k (by omega)
        have h2 := ih (k + 2) (by omega)
        simp only [List.getElem?_cons_succ] at h2 ⊢
        rw [List.getElem?_zipWith, h1, h2]
        rfl
end Dw

set_option Elab.async false
set_option linter.all false
set_option autoImplicit false
namespace Fw
open PySem PySem.Spec L2
open PyProof.Rows hiding St
section
variable {α β : Type} (e : En) (h : Hs)
/-- onward from a run's answer -/
def fwd (r : Rs α) (k : α → Hs → Rs β) : Rs β := match r with
  | .ok x h' => k x h'
  | .ex x h' => .ex x h'
  | .bad => .bad
def fwdS (r : Rs α) (e : En) (k : α → Hs → Rt) : Rt := match r with
  | .ok x h' => k x h'
  | .ex x h' => .ex x e h'
  | .bad => .bad
def thn (r : Rt) (k : En → Hs → Rt) : Rt := match r with
  | .nx e' h' => k e' h'
  | r => r
@[simp] theorem fwd_ok (x : α) (k : α → Hs → Rs β) : fwd (.ok x h) k = k x h := (rfl)
@[simp] theorem fwdS_ok (x : α) (k : α → Hs → Rt) : fwdS (.ok x h) e k = k x h := (rfl)
@[simp] theorem thn_nx (k : En → Hs → Rt) : thn (.nx e h) k = k e h := (rfl)
@[simp] theorem thn_rt (x : Va) (k : En → Hs → Rt) : thn (.rt x h) k = .rt x h := (rfl)
@[simp] theorem bnd_ap (f : Sm α) (k : α → Sm β) : bnd f k e h = fwd (f e h) fun x h' => k x e h' := (rfl)
@[simp] theorem bnS_ap (f : Sm α) (k : α → Ss) : bnS f k e h = fwdS (f e h) e fun x h' => k x e h' := (rfl)
@[simp] theorem seq_ap (f g : Ss) : seq f g e h = thn (f e h) fun e' h' => g e' h' := by unfold seq thn; split <;> simp_all
@[simp] theorem vl_ap (r : Hs → Rs α) : vl r e h = r h := (rfl)
@[simp] theorem s2_ap (k : Va → Va → Hs → Rs Va) (a b : Sx) : s2 k a b e h = fwd (a e h) fun x h1 => fwd (b e h1) fun y h2 => k x y h2 := (rfl)
@[simp] theorem s1_ap (k : Va → Hs → Rs Va) (a : Sx) : s1 k a e h = fwd (a e h) fun x h1 => k x h1 := (rfl)
@[simp] theorem sK_ap (x : Va) : sK x e h = .ok x h := (rfl)
theorem sVar_ap {i : Nat} {x : Va} (q : e[i]? = some (some x)) : sVar i e h = .ok x h := by simp only [sVar, q]
@[simp] theorem sV0 (x : Va) (r : En) : sVar 0 (some x :: r) h = .ok x h := (rfl)
@[simp] theorem sV1 (a : Option Va) (x : Va) (r : En) : sVar 1 (a :: some x :: r) h = .ok x h := (rfl)
@[simp] theorem sV2 (a b : Option Va) (x : Va) (r : En) : sVar 2 (a :: b :: some x :: r) h = .ok x h := (rfl)
@[simp] theorem sV3 (a b c : Option Va) (x : Va) (r : En) : sVar 3 (a :: b :: c :: some x :: r) h = .ok x h := (rfl)
@[simp] theorem sV4 (a b c d : Option Va) (x : Va) (r : En) : sVar 4 (a :: b :: c :: d :: some x :: r) h = .ok x h := (rfl)
@[simp] theorem sV5 (a b c d f : Option Va) (x : Va) (r : En) : sVar 5 (a :: b :: c :: d :: f :: some x :: r) h = .ok x h := (rfl)
@[simp] theorem sV6 (a b c d f g : Option Va) (x : Va) (r : En) : sVar 6 (a :: b :: c :: d :: f :: g :: some x :: r) h = .ok x h := (rfl)
@[simp] theorem sV7 (a b c d f g j : Option Va) (x : Va) (r : En) : sVar 7 (a :: b :: c :: d :: f :: g :: j :: some x :: r) h = .ok x h := (rfl)
@[simp] theorem sNil_ap : sNil e h = .ok [] h := (rfl)
@[simp] theorem sCons_ap (a : Sx) (r : Sm (List Va)) : sCons a r e h = fwd (a e h) fun x h1 => fwd (r e h1) fun xs h2 => .ok (x :: xs) h2 := (rfl)
@[simp] theorem sSet_ap (i : Nat) (f : Sx) : sSet i f e h = fwdS (f e h) e fun x h' => .nx (e.set i (some x)) h' := (rfl)
@[simp] theorem sAug_ap (k : Va → Va → Hs → Rs Va) (i : Nat) (f : Sx) : sAug k i f e h = fwdS (s2 k (sVar i) f e h) e fun x h' => .nx (e.set i (some x)) h' := (rfl)
@[simp] theorem sRet_ap (f : Sx) : sRet f e h = fwdS (f e h) e fun x h' => .rt x h' := (rfl)
@[simp] theorem sDrop_ap (f : Sx) : sDrop f e h = fwdS (f e h) e fun _ h' => .nx e h' := (rfl)
@[simp] theorem skip_ap : skip e h = .nx e h := (rfl)
@[simp] theorem sIf_ap (t : Sm Bool) (a b : Ss) : sIf t a b e h = fwdS (t e h) e fun c h' => if c = true then a e h' else b e h' := by
  unfold sIf; rw [bnS_ap]; congr; funext c h'; split <;> rfl
@[simp] theorem sBl_ap (f : Sx) : sBl f e h = fwd (f e h) fun x h' => match asB x with | some b => .ok b h' | none => .bad := (rfl)
@[simp] theorem sTru_ap (f : Sx) : sTru f e h = fwd (f e h) fun x h' => match trA x h' with | some b => .ok b h' | none => .bad := (rfl)
@[simp] theorem sNot_ap (t : Sm Bool) : sNot t e h = fwd (t e h) fun b h' => .ok (!b) h' := (rfl)
@[simp] theorem sAnd_ap (t u : Sm Bool) : sAnd t u e h = fwd (t e h) fun b h' => if b = true then u e h' else .ok false h' := by
  unfold sAnd; rw [bnd_ap]; congr; funext c h'; split <;> rfl
@[simp] theorem sOr_ap (t u : Sm Bool) : sOr t u e h = fwd (t e h) fun b h' => if b = true then .ok true h' else u e h' := by
  unfold sOr; rw [bnd_ap]; congr; funext c h'; split <;> rfl
@[simp] theorem sIte_ap (t : Sm Bool) (a b : Sx) : sIte t a b e h = fwd (t e h) fun c h' => if c = true then a e h' else b e h' := by
  unfold sIte; rw [bnd_ap]; congr; funext c h'; split <;> rfl
@[simp] theorem byB_t {f g : Sm α} : byB (some true) f g = f := (rfl)
@[simp] theorem byB_f {f g : Sm α} : byB (some false) f g = g := (rfl)
@[simp] theorem sAndV_ap (a b : Sx) : sAndV a b e h = fwd (a e h) fun x h' => byB (asB x) b (sK (.bl false)) e h' := (rfl)
@[simp] theorem sOrV_ap (a b : Sx) : sOrV a b e h = fwd (a e h) fun x h' => byB (asB x) (sK (.bl true)) b e h' := (rfl)
@[simp] theorem sBlt_ap (k : List Va → Hs → Rs Va) (f : Sm (List Va)) : sBlt k f e h = fwd (f e h) fun xs h' => k xs h' := (rfl)
@[simp] theorem sCall_ap (F : Fn) (n : Nat) (π : List Nat) (f : Sm (List Va)) : sCall F n π f e h = fwd (f e h) fun xs h' => if xs.length = n then F (π.filterMap fun j => xs[j]?) h' else .bad := by
  unfold sCall; rw [bnd_ap]; congr; funext c h'; split <;> rfl
@[simp] theorem sCallK_ap (F : Fn) (n m : Nat) (π : List Nat) (f g : Sm (List Va)) : sCallK F n m π f g e h = fwd (f e h) fun xs h1 => fwd (g e h1) fun zs h2 => if xs.length = n ∧ zs.length = m then F (π.filterMap fun j => (xs ++ zs)[j]?) h2 else .bad := by
  unfold sCallK; rw [bnd_ap]; congr; funext c h'; rw [bnd_ap]; congr; funext c h'; split <;> rfl
@[simp] theorem sTup_ap (a : Sm (List Va)) : sTup a e h = fwd (a e h) fun xs h' => if xs.length ≤ 16777216 then .ok (.tup xs) h' else .bad := (rfl)
@[simp] theorem sLst_ap (a : Sm (List Va)) : sLst a e h = fwd (a e h) fun xs h' => newL xs h' := (rfl)
@[simp] theorem sAsg_ap (f : Sx) (g : Tg) : sAsg f g e h = fwdS (f e h) e fun x h' => match g x e h' with | .ok e' h2 => .nx e' h2 | _ => .bad := (rfl)
@[simp] theorem sPar_ap (is : List Nat) (f : Sm (List Va)) : sPar is f e h = fwdS (f e h) e fun xs h' => match setAll is xs e with | some e' => .nx e' h' | none => .bad := (rfl)
@[simp] theorem sFor_ap (f : Sit) (g : Tg) (b : Ss) : sFor f g b e h = fwdS (f e h) e fun s h' => loop s.1 (stp g b) s.2 0 e h' := (rfl)
@[simp] theorem sItr_ap (f : Sx) : sItr f e h = fwd (f e h) fun x h' => match itV x h' with | some s => .ok s h' | none => .bad := (rfl)
@[simp] theorem sLc_ap (f : Sit) (g : Tg) (t : Sm Bool) (el : Sx) (own : List Nat) : sLc f g t el own e h = fwd (f e h) fun s h' => lst_ [] (lcl s.1 g t el s.2 0 (wipeE e own) h') := (rfl)
@[simp] theorem sMth_ap (T : String) (k : Va → List Va → Hs → Rs Va) (o : Sx) (f : Sm (List Va)) : sMth T k o f e h = fwd (o e h) fun x h' => if tyA T x h' = true then fwd (f e h') (fun xs h2 => k x xs h2) else .bad := by
  unfold sMth; rw [bnd_ap]; rfl
theorem sRg1_int (f : Sm (List Va)) : sRg1 f e h = fwd (f e h) fun xs h' => match xs with | [.int j] => if -(2 ^ 62) ≤ j ∧ j < 2 ^ 62 then .ok (srcR 0 j.toNat, j.toNat) h' else .bad | _ => .bad := by
  unfold sRg1; rw [bnd_ap]; all_goals congr
theorem sRg2_int (f : Sm (List Va)) : sRg2 f e h = fwd (f e h) fun xs h' => match xs with | [.int i, .int j] => if -(2 ^ 62) ≤ i ∧ i < 2 ^ 62 ∧ -(2 ^ 62) ≤ j ∧ j < 2 ^ 62 then .ok (srcR i (j - i).toNat, (j - i).toNat) h' else .bad | _ => .bad := by
  unfold sRg2; rw [bnd_ap]; all_goals congr
end
/-- the answer of a body's end -/
def fin (r : Rt) : Rs Va := match r with
  | .nx _ h' => .ok .non h'
  | .rt v h' => .ok v h'
  | .ex x _ h' => .ex x h'
  | _ => .bad
@[simp] theorem fin_rt (x : Va) (h : Hs) : fin (.rt x h) = .ok x h := (rfl)
@[simp] theorem fin_nx (e : En) (h : Hs) : fin (.nx e h) = .ok .non h := (rfl)
theorem runB_ap (n : Nat) (b : Ss) (xs : List Va) (h : Hs) : runB n b xs h = fin (b (xs.map some ++ List.replicate (n - xs.length) none) h) := (rfl)
@[simp] theorem sChn_ap (k k' : Va → Va → Hs → Rs Va) (a b c : Sx) (e : En) (h : Hs) : sChn k k' a b c e h = fwd (a e h) fun x h1 => fwd (b e h1) fun y h2 => fwd (k x y h2) fun z h3 => byB (asB z) (bnd c fun w => vl (k' y w)) (sK (.bl false)) e h3 := (rfl)
/-- a loop by what holds before each turn -/
theorem loop_inv {s : Src} {b : Va → Ss} {n : Nat} (I : Nat → En → Hs → Prop) (st : ∀ i e h, i < n → I i e h → ∃ x e' h', s i h = some (some x) ∧ b x e h = .nx e' h' ∧ I (i + 1) e' h') (en : ∀ e h, I n e h → s n h = some none) {e : En} {h : Hs} (h0 : I 0 e h) :
    ∃ e' h', loop s b n 0 e h = .nx e' h' ∧ I n e' h' := by
  have go : ∀ k i e h, i + k = n → I i e h → ∃ e' h', loop s b k i e h = .nx e' h' ∧ I n e' h' := by
    intro k
    induction k with
    | zero =>
      intro i e h q hI
      have : i = n := by omega
      subst this
      exact ⟨e, h, by simp only [loop, en e h hI], hI⟩
    | succ k ih =>
      intro i e h q hI
      obtain ⟨x, e1, h1, a1, a2, a3⟩ := st i e h (by omega) hI
      obtain ⟨e2, h2, b1, b2⟩ := ih (i + 1) e1 h1 (by omega) a3
      refine ⟨e2, h2, ?_, b2⟩
      simp only [loop, a1, a2, aft]
      exact b1
  exact go n 0 e h (by omega) h0
theorem loop_gen {s : Src} {b : Va → Ss} {n : Nat} {e : En} {h : Hs} {L : Rt} (hL : loop s b n 0 e h = L) (I : Nat → En → Hs → Prop) (h0 : I 0 e h) (st : ∀ i e h, i < n → I i e h → ∃ x e' h', s i h = some (some x) ∧ b x e h = .nx e' h' ∧ I (i + 1) e' h') (en : ∀ e h, I n e h → s n h = some none) :
    ∃ e' h', L = .nx e' h' ∧ I n e' h' := by
  obtain ⟨e', h', a, b⟩ := loop_inv I st en h0
  exact ⟨e', h', hL ▸ a, b⟩
theorem whl_gen {t : Sm Bool} {b : Ss} {f : Nat} {e : En} {h : Hs} {L : Rt} (hL : whl t b f e h = L) (I : Nat → En → Hs → Prop) (J : En → Hs → Prop) (n : Nat) (hn : n < f) (h0 : I n e h)
    (st : ∀ n e h, I (n + 1) e h → ∃ h1 e' h', t e h = .ok true h1 ∧ b e h1 = .nx e' h' ∧ I n e' h') (en : ∀ e h, I 0 e h → ∃ h1, t e h = .ok false h1 ∧ J e h1) : ∃ e' h', L = .nx e' h' ∧ J e' h' := by
  subst hL
  induction n generalizing f e h with
  | zero =>
    obtain ⟨h1, a, b⟩ := en e h h0
    cases f with
    | zero => omega
    | succ f => exact ⟨e, h1, by simp only [whl, a], b⟩
  | succ n ih =>
    cases f with
    | zero => omega
    | succ f =>
      obtain ⟨h1, e1, h2, a1, a2, a3⟩ := st n e h h0
      obtain ⟨e', h', b1, b2⟩ := ih (f := f) (show n < f by omega) a3
      exact ⟨e', h', by simp only [whl, a1, a2, aft]; exact b1, b2⟩
theorem mapO_some {α β γ : Type} {f : α → Option β} {g : γ → α} {k : γ → β} (q : ∀ x, f (g x) = some (k x)) : ∀ xs : List γ, mapO f (xs.map g) = some (xs.map k)
  | [] => rfl
  | x :: xs => by simp only [List.map_cons, mapO, q, mapO_some q xs]
theorem joinL_one : ∀ s : List Nat, joinL [] (s.map fun c => [c]) = s
  | [] => rfl
  | [c] => rfl
  | c :: d :: s => by
    have := joinL_one (d :: s)
    simp only [List.map_cons] at this ⊢
    rw [joinL, this]
    rfl
theorem sum_one : ∀ s : List Nat, ((s.map fun c => [c]).map (·.length)).sum = s.length
  | [] => rfl
  | c :: s => by
    have := sum_one s
    simp only [List.map_cons, List.sum_cons, this, List.length_cons, List.length_nil]
    omega
theorem join_one {h : Hs} {n : Nat} {s : List Nat} (q : h[n]? = some (.lst (s.map fun c => .str [c]))) (l : s.length ≤ 16777216) : kJoin (.str []) [.loc n] h = .ok (.str s) h := by
  have e : (lsA (.loc n) h).bind (mapO asS) = some (s.map fun c => [c]) := by
    simp only [lsA, q, Option.bind_some]
    exact mapO_some (f := asS) (g := fun c => Va.str [c]) (k := fun c => [c]) (fun x => rfl) s
  simp only [kJoin, e, sum_one, joinL_one, List.length_nil, Nat.mul_zero, Nat.add_zero, if_pos l]
theorem p62 : (2 : Int) ^ 62 = 4611686018427387904 := by decide +kernel
theorem rg1_ok {f : Sm (List Va)} {e : En} {h h1 : Hs} {j : Nat} (q : f e h = .ok [.int (j : Nat)] h1) (l : j ≤ 1000000) : sRg1 f e h = .ok (srcR 0 j, j) h1 := by
  rw [sRg1_int, q, fwd_ok]
  simp only []
  rw [if_pos ⟨by omega, by omega⟩, Int.toNat_natCast]
/-- the same for the turns of a display's loop -/
theorem lcl_inv {s : Src} {g : Tg} {t : Sm Bool} {el : Sx} {n : Nat} {e : En} (ys : List Va) (hn : ys.length = n) (I : Nat → Hs → Prop) (st : ∀ i h, i < n → I i h → ∃ x e' h1 h2 h3 y, s i h = some (some x) ∧ g x e h = .ok e' h1 ∧ t e' h1 = .ok true h2 ∧ el e' h2 = .ok y h3 ∧ ys[i]? = some y ∧ I (i + 1) h3) (en : ∀ h, I n h → s n h = some none) {h : Hs} (h0 : I 0 h) :
    ∃ h', lcl s g t el n 0 e h = .ok ys h' ∧ I n h' := by
  have go : ∀ k i h, i + k = n → I i h → ∃ h', lcl s g t el k i e h = .ok (ys.drop i) h' ∧ I n h' := by
    intro k
    induction k with
    | zero =>
      intro i h q hI
      have : i = n := by omega
      subst this
      refine ⟨h, ?_, hI⟩
      simp only [lcl, en h hI]
      rw [List.drop_of_length_le (by omega)]
    | succ k ih =>
      intro i h q hI
      obtain ⟨x, e', h1, h2, h3, y, a1, a2, a3, a4, a5, a6⟩ := st i h (by omega) hI
      obtain ⟨h4, b1, b2⟩ := ih (i + 1) h3 (by omega) a6
      refine ⟨h4, ?_, b2⟩
      simp only [lcl, a1, a2, a3, a4, b1]
      obtain ⟨hl, e5⟩ := List.getElem?_eq_some_iff.mp a5
      rw [List.drop_eq_getElem_cons hl, e5]
  obtain ⟨h', a, b⟩ := go n 0 h (by omega) h0
  exact ⟨h', by simpa using a, b⟩
end Fw

set_option Elab.async false
set_option linter.all false
set_option autoImplicit false
namespace Fw
open PySem PySem.Spec L2
open PyProof.Rows hiding St
@[simp] theorem ngB_f (b : Bool) : ngB false b = b := (rfl)
@[simp] theorem ngB_t (b : Bool) : ngB true b = !b := (rfl)
@[simp] theorem kIn_sign (neg : Bool) (c : Nat) (z : List Nat) (h : Hs) : kIn neg (.str [c]) (.str z) h = .ok (.bl (ngB neg (decide (c ∈ z)))) h := (rfl)
end Fw
namespace Fw
open PySem PySem.Spec L2
open PyProof.Rows hiding St
@[simp] theorem kMulS_str (x : List Nat) (j : Int) (h : Hs) : kMulS (.str x) (.int j) h = if 0 ≤ j ∧ j ≤ 1000000 ∧ x.length * j.toNat ≤ 16777216 then .ok (.str (List.replicate j.toNat x).flatten) h else .bad := (rfl)
theorem mulS_one {c n : Nat} {h : Hs} (l : n ≤ 1000000) : kMulS (.str [c]) (.int (n : Nat)) h = .ok (.str (List.replicate n c)) h := by
  rw [kMulS_str, if_pos ⟨by omega, by omega, by simp; omega⟩, Int.toNat_natCast]
  congr 2
  induction n with
  | zero => rfl
  | succ n ih => rw [List.replicate_succ, List.flatten_cons, ih (by omega)]; rfl
end Fw

set_option Elab.async false
set_option linter.all false
set_option maxRecDepth 100000
set_option maxHeartbeats 4000000
set_option autoImplicit false
namespace Pg
open PySem PySem.Spec L2 Fw
open PyProof.Rows hiding St
theorem _root_.Fw.graft_lf {x : Va} {h h' : Hs} (q : lf x = true) : graft h (.ok x h') = .ok x h := by simp only [graft, q, if_true]
theorem _root_.Fw.pure_of {F : Fn} {xs : List Va} {h h' : Hs} {x : Va} (hx : lfL xs = true) (q : F xs [] = .ok x h') (l : lf x = true) : pureF F xs h = .ok x h := by
  unfold pureF
  rw [if_pos hx, q, graft_lf l]
theorem is_within_ok {i a b : Int} {h : Hs} (h1 : a ≤ i) (h2 : i ≤ b) : G_is_within [.int i, .int a, .int b] h = .ok (.bl true) h := by
  refine pure_of rfl (h' := []) ?_ rfl
  simp [runB_ap, b_is_within, h1, kLe, sVar_ap, h2]
theorem need_number_ok {i a b : Int} {h : Hs} (h1 : a ≤ i) (h2 : i ≤ b) : G_need_number [.int i, .int a, .int b] h = .ok .non h := by
  refine pure_of rfl (h' := []) ?_ rfl
  simp [runB_ap, b_need_number, is_within_ok h1 h2]

theorem W_zero : ∀ l h, l < h → Dw.W l h = 0
  | 0, 0, q => by omega
  | 0, h + 1, q => rfl
  | l + 1, 0, q => by omega
  | l + 1, h + 1, q => by simp only [Dw.W]; rw [W_zero l (h + 2) (by omega), W_zero l h (by omega)]
def _root_.Fw.isI (r : Rs Va) (n : Int) : Bool := match r with
  | .ok (.int i) _ => decide (i = n)
  | _ => false
theorem _root_.Fw.isI_of {r : Rs Va} {n : Int} (q : isI r n = true) : ∃ h, r = .ok (.int n) h := by
  unfold isI at q
  split at q
  · rename_i i h
    exact ⟨h, by rw [of_decide_eq_true q]⟩
  · cases q
def ceT (o c : Nat) : Nat := ((Dw.wrow 50 (o + c))[c - o]?).getD 0
theorem ce_all : ((List.range 13).all fun c => (List.range (c + 1)).all fun o => isI (R__count_endings [.int (o : Nat), .int (c : Nat)] []) (ceT o c)) = true := by decide +kernel
theorem ce_ok {o c : Nat} {h : Hs} (h1 : o ≤ c) (h2 : c ≤ 12) : G__count_endings [.int o, .int c] h = .ok (.int (Dw.W (o + c) (c - o) : Nat)) h := by
  have q := List.all_eq_true.mp (List.all_eq_true.mp ce_all c (List.mem_range.mpr (by omega))) o (List.mem_range.mpr (by omega))
  obtain ⟨h', q⟩ := isI_of q
  refine pure_of rfl (h' := h') ?_ rfl
  rw [q]
  unfold ceT
  rw [Dw.wrow_at 50 _ _ (by omega) (by omega)]
  rfl
theorem ce_pred {o c : Nat} {h : Hs} (h1 : o ≤ c) (h2 : c ≤ 12) (h3 : 0 < c) : G__count_endings [.int ((o : Int) - 1), .int c] h = .ok (.int (Dw.W (o + c - 1) (c - o + 1) : Nat)) h := by
  cases o with
  | zero =>
    rw [W_zero _ _ (by omega)]
    refine pure_of rfl (h' := []) ?_ rfl
    simp [runB_ap, b__count_endings]
  | succ o =>
    have e : ((o + 1 : Nat) : Int) - 1 = (o : Nat) := by omega
    rw [e, ce_ok (by omega) h2]
    have e1 : o + 1 + c - 1 = o + c := by omega
    have e2 : c - (o + 1) + 1 = c - o := by omega
    rw [e1, e2]
theorem count_rows_ok {n : Nat} {h : Hs} (q : n ≤ 12) : G_count_rows [.int n] h = .ok (.int (Dw.W (2 * n) 0 : Nat)) h := by
  refine pure_of rfl (h' := []) ?_ rfl
  simp [runB_ap, b_count_rows, need_number_ok (a := 0) (b := 12) (i := (n : Int)) (by omega) (by omega), ce_ok (Nat.le_refl n) q]
  rw [show n + n = 2 * n by omega]
theorem _root_.Fw.drop_cons {α : Type} {xs : List α} {i : Nat} (q : i < xs.length) : ∃ x, xs[i]? = some x ∧ xs.drop i = x :: xs.drop (i + 1) := ⟨xs[i], List.getElem?_eq_getElem q, List.drop_eq_getElem_cons q⟩
theorem _root_.Fw.new_ok {xs : List Va} {h : Hs} (l : xs.length ≤ 16777216) : newL xs h = .ok (.loc h.length) (h ++ [.lst xs]) := by rw [newL, if_pos l]
theorem _root_.Fw.all_true {h : Hs} {n : Nat} {ys : List Va} (q : h[n]? = some (.lst ys)) (t : ∀ y ∈ ys, y = .bl true) : kAll [.loc n] h = .ok (.bl true) h := by
  have e : ys = (List.replicate ys.length true).map Va.bl := by
    apply List.ext_getElem (by simp)
    intro i h1 h2
    simp [t _ (List.getElem_mem h1)]
  have r : (lsA (.loc n) h).bind (mapO asB) = some (List.replicate ys.length true) := by
    simp only [lsA, q, Option.bind_some]
    rw [e]
    simpa using mapO_some (f := asB) (g := Va.bl) (k := id) (fun x => rfl) (List.replicate ys.length true)
  simp only [kAll, on1, r]
  simp
theorem is_text_ok {s z : List Nat} {a b : Nat} {h : Hs} (q : ∀ c ∈ s, c ∈ z) (l1 : a ≤ s.length) (l2 : s.length ≤ b) (l3 : s.length ≤ 16777216) : G_is_text [.str s, .str z, .int (a : Nat), .int (b : Nat)] h = .ok (.bl true) h := by
  suffices hh : ∃ h', R_is_text [.str s, .str z, .int (a : Nat), .int (b : Nat)] [] = .ok (.bl true) h' by
    obtain ⟨h', hh⟩ := hh
    exact pure_of rfl hh rfl
  have e : kStrp (.str s) [.str z] = fun h => .ok (.str []) h := by
    funext h
    simp only [kStrp]
    rw [if_pos l3, stpC_all q]
  have ty : tyA "str" (Va.str s) [] = true := rfl
  simp [runB_ap, b_is_text, l3, kLe, l1, l2, e, ty, -kEq]
  exact ⟨_, rfl⟩
theorem D_sign {s : List Nat} : ∀ {h : Nat}, Dw.D h s → ∀ c ∈ s, c ∈ [40, 41] := by
  induction s with
  | nil => intro h _ c m; simp at m
  | cons d s ih =>
    intro h q c m
    rcases q with ⟨rfl, q⟩ | ⟨rfl, g, rfl, q⟩
    · rcases List.mem_cons.mp m with rfl | m
      · simp
      · exact ih q c m
    · rcases List.mem_cons.mp m with rfl | m
      · simp
      · exact ih q c m
theorem is_row_ok {s : List Nat} {h : Hs} (q : Dw.D 0 s) (l : s.length ≤ 24) : G_is_row [.str s] h = .ok (.bl true) h := by
  refine pure_of rfl (h' := []) ?_ rfl
  have t : ∀ h, G_is_text [.str s, .str [40, 41], .int 0, .int 24] h = .ok (.bl true) h := fun h => is_text_ok (a := 0) (b := 24) (D_sign q) (by omega) l (by omega)
  simp [runB_ap, b_is_row, kMul, t]
  generalize hL : loop _ _ _ _ _ _ = L
  obtain ⟨e', h', rfl, ht, z, rfl, rfl, d⟩ := loop_gen hL (fun i e h => ∃ (ht : Nat) (z : Option Va), e = [some (.str s), some (.int (ht : Nat)), z] ∧ h = [] ∧ Dw.D ht (s.drop i)) ⟨0, none, rfl, rfl, q⟩ (by
      rintro i e h hi ⟨ht, z, rfl, rfl, d⟩
      obtain ⟨c, e1, e2⟩ := drop_cons hi
      rw [e2] at d
      rcases d with ⟨rfl, d⟩ | ⟨rfl, g, rfl, d⟩
      · refine ⟨.str [40], _, _, by simp [e1], ?_, ht + 1, some (.str [40]), rfl, rfl, d⟩
        simp [stp]
        omega
      · refine ⟨.str [41], _, _, by simp [e1], ?_, g, some (.str [41]), rfl, rfl, d⟩
        simp [stp]
        rw [show (g : Int) + 1 + -1 = g by omega, if_neg (by omega)]) (by
      rintro e h ⟨ht, z, rfl, rfl, d⟩
      simp)
  simp at d
  have : ht = 0 := d
  subst this
  simp
theorem need_row_ok {s : List Nat} {h : Hs} (q : Dw.D 0 s) (l : s.length ≤ 24) : G_need_row [.str s] h = .ok .non h := by
  refine pure_of rfl (h' := []) ?_ rfl
  simp [runB_ap, b_need_row, is_row_ok q l]
end Pg


set_option Elab.async false
set_option linter.all false
set_option maxRecDepth 100000
set_option maxHeartbeats 2000000
set_option autoImplicit false
namespace Mg
open PySem PySem.Spec L2 Fw Pg
open PyProof.Rows hiding St
def b__law_mug : Ss :=
  (seq (sSet 2 (sIte (sBl (s2 kLt (sVar 1) (sBlt kLen (sCons (sVar 0) sNil)))) (sBlt kInt (sCons (s2 kIx (sVar 0) (sVar 1)) sNil)) (s2 kAdd (s2 kMul (sK (.int 9257)) (sVar 1)) (sK (.int 113)))))
  (seq (sSet 3 (s2 kAdd (sK (.int 99023)) (s2 kMul (sK (.int 661)) (sVar 1))))
  (seq (sFor (sItr (s2 kAdd (sSl (sVar 0) sNo (sSo (sK (.int 5)))) (sLst (sCons (sVar 2) sNil)))) (gNm 4)
  (sSet 3 (s2 kMod (sBlt kInt (sCons (s2 kAdd (s2 kMul (sVar 3) (sK (.int 55001))) (sBlt kInt (sCons (sVar 4) sNil))) sNil)) (sK (.int 2147482819)))))
  (sRet (sLst (sCons (sIte (sOr (sBl (s2 kLt (sVar 2) (sK (.int 0)))) (sBl (s2 kGe (sVar 2) (s2 kPow (sK (.int 10)) (sK (.int 18)))))) (sBlt kAbs (sCons (sVar 2) sNil)) (sK (.int 0))) (sCons (sVar 3) (sCons (sK (.int 0)) sNil))))))))
abbrev R__law_mug : Fn := runB 5 b__law_mug
def G__law_mug : Fn := pureF R__law_mug
def b__law_sip : Ss :=
  (seq (sAsg (s2 kAdd (s2 kIx (sVar 0) (sK (.int 2))) (sK (.int 1))) (gSb (sVar 0) (sK (.int 2))))
  (seq (sSet 2 (sBlt kInt (sCons (s2 kIx (sVar 0) (sK (.int 1))) sNil)))
  (seq (sAsg (s2 kMod (sBlt kInt (sCons (s2 kAdd (s2 kAdd (s2 kMul (sVar 2) (s2 kAdd (s2 kMod (sBlt kInt (sCons (sVar 2) sNil)) (sK (.int 24001))) (sK (.int 19001)))) (s2 kMul (sK (.int 58013)) (s2 kIx (sVar 0) (sK (.int 2))))) (sK (.int 73))) sNil)) (sK (.int 2147482819))) (gSb (sVar 0) (sK (.int 1))))
  (seq (sIf (sBl (s2 kGt (s2 kIx (sVar 0) (sK (.int 0))) (sK (.int 0))))
  (seq (sAsg (sBlt kDvm (sCons (s2 kIx (sVar 0) (sK (.int 0))) (sCons (sVar 1) sNil))) (gTp 2 (gsCons (gSb (sVar 0) (sK (.int 0))) (gsCons (gNm 3) gsNil))))
  (sRet (sVar 3)))
  skip)
  (sRet (s2 kMod (sBlt kInt (sCons (s2 kFdv (s2 kIx (sVar 0) (sK (.int 1))) (sK (.int 157))) sNil)) (sVar 1)))))))
abbrev R__law_sip : Fn := runB 4 b__law_sip
@[irreducible] def G__law_sip : Fn := R__law_sip
theorem g__law_sip (xs : List Va) (h : Hs) (_ : xs.length = 2) (_ : G__law_sip xs h ≠ .bad) : R__law_sip xs h = G__law_sip xs h := by unfold G__law_sip; rfl
def b__law_every : Ss :=
  (seq (sSet 1 (sLst (sCons (sTup (sCons (sK (.str [])) (sCons (sK (.int 0)) sNil))) sNil)))
  (seq (sFor (sRg1 (sCons (s2 kMul (sK (.int 2)) (sVar 0)) sNil)) (gNm 2)
  (seq (sSet 3 (sLst sNil))
  (seq (sFor (sItr (sVar 1)) (gTp 2 (gsCons (gNm 4) (gsCons (gNm 5) gsNil)))
  (seq (sIf (sBl (s2 kLt (s2 kAdd (sVar 5) (sK (.int 1))) (s2 kSub (s2 kMul (sK (.int 2)) (sVar 0)) (sVar 2))))
  (sDrop (sMth "list" kApp (sVar 3) (sCons (sTup (sCons (s2 kAdd (sVar 4) (sK (.str [40]))) (sCons (s2 kAdd (sVar 5) (sK (.int 1))) sNil))) sNil)))
  skip)
  (sIf (sBl (s2 kGt (sVar 5) (sK (.int 0))))
  (sDrop (sMth "list" kApp (sVar 3) (sCons (sTup (sCons (s2 kAdd (sVar 4) (sK (.str [41]))) (sCons (s2 kSub (sVar 5) (sK (.int 1))) sNil))) sNil)))
  skip)))
  (sSet 1 (sVar 3)))))
  (sRet (sLc (sItr (sVar 1)) (gTp 2 (gsCons (gNm 4) (gsCons (gNm 5) gsNil))) tru (sVar 4) [4, 5]))))
abbrev R__law_every : Fn := runB 6 b__law_every
def G__law_every : Fn := pureF R__law_every
def b__law_duos : Ss :=
  (seq (sPar [1, 2] (sCons (sLst sNil) (sCons (sLst sNil) sNil)))
  (seq (sFor (sRg1 (sCons (sBlt kLen (sCons (sVar 0) sNil)) sNil)) (gNm 3)
  (sIf (sBl (s2 kEq (s2 kIx (sVar 0) (sVar 3)) (sK (.str [40]))))
  (sDrop (sMth "list" kApp (sVar 1) (sCons (sVar 3) sNil)))
  (sDrop (sMth "list" kApp (sVar 2) (sCons (sTup (sCons (sMth "list" kPop (sVar 1) sNil) (sCons (sVar 3) sNil))) sNil)))))
  (sRet (sBlt kSrtP (sCons (sVar 2) sNil)))))
abbrev R__law_duos : Fn := runB 4 b__law_duos
def G__law_duos : Fn := pureF R__law_duos
def b__law_drawn_of : Ss :=
  (seq (sSet 1 (s2 kMul (sLst (sCons (sK (.str [])) sNil)) (s2 kMul (sK (.int 2)) (sBlt kLen (sCons (sVar 0) sNil)))))
  (seq (sFor (sItr (sVar 0)) (gTp 2 (gsCons (gNm 2) (gsCons (gNm 3) gsNil)))
  (sAsg (sTup (sCons (sK (.str [40])) (sCons (sK (.str [41])) sNil))) (gTp 2 (gsCons (gSb (sVar 1) (sBlt kMin (sCons (sVar 2) (sCons (sVar 3) sNil)))) (gsCons (gSb (sVar 1) (sBlt kMax (sCons (sVar 2) (sCons (sVar 3) sNil)))) gsNil)))))
  (sRet (sMth "str" kJoin (sK (.str [])) (sCons (sVar 1) sNil)))))
abbrev R__law_drawn_of : Fn := runB 4 b__law_drawn_of
@[irreducible] def G__law_drawn_of : Fn := R__law_drawn_of
theorem g__law_drawn_of (xs : List Va) (h : Hs) (_ : xs.length = 1) (_ : G__law_drawn_of xs h ≠ .bad) : R__law_drawn_of xs h = G__law_drawn_of xs h := by unfold G__law_drawn_of; rfl
def b__law_mirrored : Ss :=
  (sRet (sMth "str" kJoin (sK (.str [])) (sCons (sLc (sItr (s1 kRev (sVar 0))) (gNm 1) tru (s2 kIx (sK (.str [40, 41])) (sBlt kInt (sCons (s2 kEq (sVar 1) (sK (.str [40]))) sNil))) [1]) sNil)))
abbrev R__law_mirrored : Fn := runB 2 b__law_mirrored
def G__law_mirrored : Fn := pureF R__law_mirrored
def b__law_of : Ss :=
  (sRet (s2 kIx (sVar 1) (sCall G__law_sip 2 [0, 1] (sCons (sVar 0) (sCons (sBlt kLen (sCons (sVar 1) sNil)) sNil)))))
abbrev R__law_of : Fn := runB 2 b__law_of
@[irreducible] def G__law_of : Fn := R__law_of
theorem g__law_of (xs : List Va) (h : Hs) (_ : xs.length = 2) (_ : G__law_of xs h ≠ .bad) : R__law_of xs h = G__law_of xs h := by unfold G__law_of; rfl
def b__law_bow : Ss :=
  (seq (sAsg (sTup (sCons (sK (.str [])) (sCons (sK (.int 0)) sNil))) (gTp 2 (gsCons (gNm 2) (gsCons (gNm 3) gsNil))))
  (seq (sFor (sRg1 (sCons (s2 kMul (sK (.int 2)) (sVar 1)) sNil)) (gNm 4)
  (sIf (sOr (sBl (s2 kEq (sVar 3) (sK (.int 0)))) (sAnd (sBl (s2 kLt (sVar 3) (s2 kSub (s2 kMul (sK (.int 2)) (sVar 1)) (sVar 4)))) (sBl (s2 kEq (sCall G__law_sip 2 [0, 1] (sCons (sVar 0) (sCons (sK (.int 2)) sNil))) (sK (.int 0))))))
  (sPar [2, 3] (sCons (s2 kAdd (sVar 2) (sK (.str [40]))) (sCons (s2 kAdd (sVar 3) (sK (.int 1))) sNil)))
  (sPar [2, 3] (sCons (s2 kAdd (sVar 2) (sK (.str [41]))) (sCons (s2 kSub (sVar 3) (sK (.int 1))) sNil)))))
  (sRet (sVar 2))))
abbrev R__law_bow : Fn := runB 5 b__law_bow
@[irreducible] def G__law_bow : Fn := R__law_bow
theorem g__law_bow (xs : List Va) (h : Hs) (_ : xs.length = 2) (_ : G__law_bow xs h ≠ .bad) : R__law_bow xs h = G__law_bow xs h := by unfold G__law_bow; rfl
def b__law_rounds : Ss :=
  (seq (sAsg (sTup (sCons sDn (sCons sDn (sCons (sLst sNil) (sCons (sLst sNil) sNil))))) (gTp 4 (gsCons (gNm 2) (gsCons (gNm 3) (gsCons (gNm 4) (gsCons (gNm 5) gsNil))))))
  (seq (sFor (sItr (sCall G__law_duos 1 [0] (sCons (sVar 0) sNil))) (gTp 2 (gsCons (gNm 6) (gsCons (gNm 7) gsNil)))
  (sAsg (sTup (sCons (sVar 7) (sCons (sVar 6) sNil))) (gTp 2 (gsCons (gSbD (sVar 2) (sVar 6)) (gsCons (gSbD (sVar 2) (sVar 7)) gsNil)))))
  (seq (sFor (sItr (sCall G__law_duos 1 [0] (sCons (sVar 1) sNil))) (gTp 2 (gsCons (gNm 6) (gsCons (gNm 7) gsNil)))
  (sAsg (sTup (sCons (sVar 7) (sCons (sVar 6) sNil))) (gTp 2 (gsCons (gSbD (sVar 3) (sVar 6)) (gsCons (gSbD (sVar 3) (sVar 7)) gsNil)))))
  (seq (sFor (sRg1 (sCons (sBlt kLen (sCons (sVar 0) sNil)) sNil)) (gNm 8)
  (sIf (sBl (s2 (kInX true) (sVar 8) (sVar 5)))
  (seq (sPar [9, 10] (sCons (sLst sNil) (sCons (sVar 8) sNil)))
  (seq (sFor (sRg1 (sCons (sBlt kLen (sCons (sVar 0) sNil)) sNil)) (gNm 11)
  (sIf (sBl (s2 (kInX true) (sVar 10) (sVar 9)))
  (seq (sSet 9 (s2 kAdd (sVar 9) (sLst (sCons (sVar 10) (sCons (s2 kIxD (sVar 2) (sVar 10)) sNil)))))
  (sSet 10 (s2 kIxD (sVar 3) (s2 kIxD (sVar 2) (sVar 10)))))
  skip))
  (seq (sSet 5 (s2 kAdd (sVar 5) (sVar 9)))
  (sDrop (sMth "list" kApp (sVar 4) (sCons (sBlt kTpl (sCons (sBlt kSrtI (sCons (sVar 9) sNil)) sNil)) sNil))))))
  skip))
  (sRet (sBlt kTpl (sCons (sVar 4) sNil)))))))
abbrev R__law_rounds : Fn := runB 12 b__law_rounds
def G__law_rounds : Fn := pureF R__law_rounds
end Mg

set_option Elab.async false
set_option linter.all false
set_option maxRecDepth 100000
set_option maxHeartbeats 4000000
set_option autoImplicit false
namespace Fw
open PySem PySem.Spec L2
open PyProof.Rows hiding St
theorem atI_nat {α : Type} {xs : List α} {i : Nat} {x : α} (e : xs[i]? = some x) : atI xs (i : Int) = some x := by
  have hl := (List.getElem?_eq_some_iff.mp e).1
  simp only [atI, ixN]
  rw [if_pos (by omega), if_pos (by omega)]
  simpa using e
theorem ix_loc {h : Hs} {n i : Nat} {xs : List Va} {x : Va} (q : h[n]? = some (.lst xs)) (e : xs[i]? = some x) : kIx (.loc n) (.int (i : Int)) h = .ok x h := by
  simp only [kIx, gIx, q, atI_nat e]
theorem ix_str {h : Hs} {i : Nat} {s : List Nat} {c : Nat} (e : s[i]? = some c) (l : s.length ≤ 16777216) : kIx (.str s) (.int (i : Int)) h = .ok (.str [c]) h := by
  simp only [kIx, gIx, if_pos l, atI_nat e, Option.map_some]
theorem ix_loc0 {h : Hs} {n : Nat} {x : Va} {r : List Va} (q : h[n]? = some (.lst (x :: r))) : kIx (.loc n) (.int 0) h = .ok x h := ix_loc (i := 0) q rfl
theorem ix_loc1 {h : Hs} {n : Nat} {a x : Va} {r : List Va} (q : h[n]? = some (.lst (a :: x :: r))) : kIx (.loc n) (.int 1) h = .ok x h := ix_loc (i := 1) q rfl
theorem ix_loc2 {h : Hs} {n : Nat} {a b x : Va} {r : List Va} (q : h[n]? = some (.lst (a :: b :: x :: r))) : kIx (.loc n) (.int 2) h = .ok x h := ix_loc (i := 2) q rfl
theorem ks_nat {h : Hs} {n i : Nat} {xs : List Va} {x : Va} (q : h[n]? = some (.lst xs)) (l : i < xs.length) : kSet (.loc n) (.int (i : Int)) x h = some (h.set n (.lst (xs.set i x))) := by
  simp only [kSet, q, ixN]
  rw [if_pos (by omega), if_pos (by omega)]
  simp
theorem ks3_0 {h : Hs} {n : Nat} {a b c x : Va} (q : h[n]? = some (.lst [a, b, c])) : kSet (.loc n) (.int 0) x h = some (h.set n (.lst [x, b, c])) := ks_nat (i := 0) q (by simp)
theorem ks3_1 {h : Hs} {n : Nat} {a b c x : Va} (q : h[n]? = some (.lst [a, b, c])) : kSet (.loc n) (.int 1) x h = some (h.set n (.lst [a, x, c])) := ks_nat (i := 1) q (by simp)
theorem ks3_2 {h : Hs} {n : Nat} {a b c x : Va} (q : h[n]? = some (.lst [a, b, c])) : kSet (.loc n) (.int 2) x h = some (h.set n (.lst [a, b, x])) := ks_nat (i := 2) q (by simp)
theorem gSb_ap (fo fi : Sx) (x : Va) (e : En) (h : Hs) : gSb fo fi x e h = match fwd (fo e h) (fun o h1 => fwd (fi e h1) fun i h2 => match kSet o i x h2 with | some h3 => Rs.ok () h3 | none => .bad) with | .ok _ h' => .ok e h' | _ => .bad := rfl
def Mug (h : Hs) (m : Nat) : Prop := ∃ a b c : Int, h[m]? = some (.lst [.int a, .int b, .int c])
structure Kp (m : Nat) (h h' : Hs) : Prop where
  mug : Mug h' m
  old : ∀ (i : Nat) (o : Ob), i ≠ m → h[i]? = some o → h'[i]? = some o
theorem Kp.refl {m : Nat} {h : Hs} (q : Mug h m) : Kp m h h := ⟨q, fun _ _ _ e => e⟩
theorem Kp.trans {m : Nat} {h h1 h2 : Hs} (a : Kp m h h1) (b : Kp m h1 h2) : Kp m h h2 := ⟨b.mug, fun i o n e => b.old i o n (a.old i o n e)⟩
theorem Kp.app {m : Nat} {h : Hs} (q : Mug h m) (r : Hs) : Kp m h (h ++ r) := by
  have go : ∀ (i : Nat) (o : Ob), h[i]? = some o → (h ++ r)[i]? = some o := fun i o e => by
    rw [List.getElem?_append_left (List.getElem?_eq_some_iff.mp e).1]
    exact e
  obtain ⟨a, b, c, e⟩ := q
  exact ⟨⟨a, b, c, go _ _ e⟩, fun i o _ => go i o⟩
theorem Kp.set {m : Nat} {h : Hs} (q : Mug h m) (a b c : Int) : Kp m h (h.set m (.lst [.int a, .int b, .int c])) := by
  obtain ⟨_, _, _, e⟩ := q
  have hl := (List.getElem?_eq_some_iff.mp e).1
  exact ⟨⟨a, b, c, by simp [hl]⟩, fun i o n e => by rw [List.getElem?_set_ne (Ne.symm n)]; exact e⟩
end Fw
namespace Mg
open PySem PySem.Spec L2 Fw Pg
open PyProof.Rows hiding St
theorem q__law_sip : G__law_sip = R__law_sip := by unfold G__law_sip; rfl
theorem q__law_of : G__law_of = R__law_of := by unfold G__law_of; rfl
theorem q__law_bow : G__law_bow = R__law_bow := by unfold G__law_bow; rfl
theorem sip_ok {h : Hs} {m top : Nat} (q : Mug h m) (t0 : 0 < top) (t1 : top < 1073741824) : ∃ (r : Nat) (h' : Hs), G__law_sip [.loc m, .int top] h = .ok (.int r) h' ∧ r < top ∧ Kp m h h' := by
  rw [q__law_sip]
  have t2 : (0 : Int) < top := by omega
  have t3 : (top : Int) < 1073741824 := by omega
  obtain ⟨a, b, c, e⟩ := q
  have hl := (List.getElem?_eq_some_iff.mp e).1
  have fin : ∀ (x : Int) (a b c : Int), ∃ (r : Nat) (h' : Hs), (x % top = (r : Int) ∧ h.set m (.lst [.int a, .int b, .int c]) = h') ∧ r < top ∧ Kp m h h' := fun x a' b' c' => by
    have h1 := Int.emod_nonneg x (b := (top : Int)) (by omega)
    have h2 := Int.emod_lt_of_pos x t2
    exact ⟨(x % top).toNat, _, ⟨(Int.toNat_of_nonneg h1).symm, rfl⟩, by omega, Kp.set ⟨a, b, c, e⟩ a' b' c'⟩
  have s2 : ∀ x : Ob, (h.set m x)[m]? = some x := fun x => by simp [hl]
  have i0 : ∀ a b c : Va, kIx (.loc m) (.int 0) (h.set m (.lst [a, b, c])) = .ok a (h.set m (.lst [a, b, c])) := fun a b c => ix_loc0 (s2 _)
  have i1 : ∀ a b c : Va, kIx (.loc m) (.int 1) (h.set m (.lst [a, b, c])) = .ok b (h.set m (.lst [a, b, c])) := fun a b c => ix_loc1 (s2 _)
  have i2 : ∀ a b c : Va, kIx (.loc m) (.int 2) (h.set m (.lst [a, b, c])) = .ok c (h.set m (.lst [a, b, c])) := fun a b c => ix_loc2 (s2 _)
  have k0 : ∀ a b c x : Va, kSet (.loc m) (.int 0) x (h.set m (.lst [a, b, c])) = some (h.set m (.lst [x, b, c])) := fun a b c x => by rw [ks3_0 (s2 _), List.set_set]
  have k1 : ∀ a b c x : Va, kSet (.loc m) (.int 1) x (h.set m (.lst [a, b, c])) = some (h.set m (.lst [a, x, c])) := fun a b c x => by rw [ks3_1 (s2 _), List.set_set]
  have k2 : ∀ x : Va, kSet (.loc m) (.int 2) x h = some (h.set m (.lst [.int a, .int b, x])) := fun x => ks3_2 e
  have lt : ∀ x : Int, 0 ≤ x % 24001 ∧ x % 24001 < 24001 := fun x => ⟨Int.emod_nonneg _ (by decide), Int.emod_lt_of_pos _ (by decide)⟩
  have m1 : ∀ x y h, kMul (.int x) (.int (y % 24001 + 19001)) h = .ok (.int (x * (y % 24001 + 19001))) h := fun x y h => by
    have := lt y
    simp only [kMul]
    rw [if_pos (.inr (by omega))]
  have m2 : ∀ y h, kMul (.int 58013) (.int y) h = .ok (.int (58013 * y)) h := fun y h => by simp [kMul]
  by_cases a0 : 0 < a
  · simp [runB_ap, b__law_sip, gSb_ap, ix_loc2 e, i0, i1, i2, k0, k1, k2, m1, m2, kInt, kMod, kFdv, kDvm, a0, t0, t1, t2, t3]
    exact fin _ _ _ _
  · simp [runB_ap, b__law_sip, gSb_ap, ix_loc2 e, i0, i1, i2, k0, k1, k2, m1, m2, kInt, kMod, kFdv, kDvm, a0, t0, t1, t2, t3]
    exact fin _ _ _ _
theorem of_ok {h : Hs} {m r : Nat} {xs : List Va} (q : Mug h m) (hr : h[r]? = some (.lst xs)) (rm : r ≠ m) (x0 : 0 < xs.length) (x1 : xs.length < 1073741824) : ∃ (x : Va) (h' : Hs), G__law_of [.loc m, .loc r] h = .ok x h' ∧ x ∈ xs ∧ Kp m h h' := by
  obtain ⟨j, h', e, jl, k⟩ := sip_ok q x0 x1
  refine ⟨xs[j], h', ?_, List.getElem_mem _, k⟩
  rw [q__law_of]
  simp [runB_ap, b__law_of, lsA, hr, e, ix_loc (k.old r _ rm hr) (List.getElem?_eq_getElem jl)]
theorem bow_ok {h : Hs} {m n : Nat} (q : Mug h m) (hn : n ≤ 12) : ∃ (s : List Nat) (h' : Hs), G__law_bow [.loc m, .int n] h = .ok (.str s) h' ∧ Dw.D 0 s ∧ s.length = 2 * n ∧ Kp m h h' := by
  rw [q__law_bow]
  have rg : ∀ e1 e2 e3, sRg1 (sCons (s2 kMul (sK (.int 2)) (sVar 1)) sNil) [some (.loc m), some (.int n), e1, e2, e3] h = .ok (srcR 0 (2 * n), 2 * n) h := fun _ _ _ => rg1_ok (by simp [kMul]) (by omega)
  simp [runB_ap, b__law_bow, rg]
  generalize hL : loop _ _ _ _ _ _ = L
  obtain ⟨e', h', rfl, hi, pre, z, rfl, b1, b2, b3, b4, b5⟩ := loop_gen hL (fun i e h' => ∃ (hi : Nat) (pre : List Nat) (z : Option Va), e = [some (.loc m), some (.int n), some (.str pre), some (.int (hi : Nat)), z] ∧ hi ≤ 2 * n - i ∧ (hi + i) % 2 = 0 ∧ pre.length = i ∧ (∀ s, Dw.D hi s → Dw.D 0 (pre ++ s)) ∧ Kp m h h')
    ⟨0, [], none, by simp, by omega, by omega, rfl, fun s d => d, .refl q⟩ (by
      rintro i e h1 hi ⟨ht, pre, z, rfl, b1, b2, b3, b4, k⟩
      have co : ∀ h2, Kp m h h2 → ht + 1 ≤ 2 * n - (i + 1) → ∃ (hi' : Nat) (pre' : List Nat) (z' : Option Va), ([some (.loc m), some (.int n), some (.str (pre ++ [40])), some (.int ((ht : Int) + 1)), some (.int (i : Nat))] : En) = [some (.loc m), some (.int n), some (.str pre'), some (.int (hi' : Nat)), z'] ∧ hi' ≤ 2 * n - (i + 1) ∧ (hi' + (i + 1)) % 2 = 0 ∧ pre'.length = i + 1 ∧ (∀ s, Dw.D hi' s → Dw.D 0 (pre' ++ s)) ∧ Kp m h h2 := fun h2 k2 l =>
        ⟨ht + 1, pre ++ [40], some (.int (i : Nat)), by simp, l, by omega, by simp [b3], fun s d => by simpa using b4 (40 :: s) (.inl ⟨rfl, d⟩), k2⟩
      have cc : ∀ h2, Kp m h h2 → 0 < ht → ∃ (hi' : Nat) (pre' : List Nat) (z' : Option Va), ([some (.loc m), some (.int n), some (.str (pre ++ [41])), some (.int ((ht : Int) - 1)), some (.int (i : Nat))] : En) = [some (.loc m), some (.int n), some (.str pre'), some (.int (hi' : Nat)), z'] ∧ hi' ≤ 2 * n - (i + 1) ∧ (hi' + (i + 1)) % 2 = 0 ∧ pre'.length = i + 1 ∧ (∀ s, Dw.D hi' s → Dw.D 0 (pre' ++ s)) ∧ Kp m h h2 := fun h2 k2 l =>
        ⟨ht - 1, pre ++ [41], some (.int (i : Nat)), by simp; omega, by omega, by omega, by simp [b3], fun s d => by simpa using b4 (41 :: s) (.inr ⟨rfl, ht - 1, by omega, d⟩), k2⟩
      have sr : srcR 0 (2 * n) i h1 = some (some (.int (i : Nat))) := by simp [hi]
      have sz : pre.length ≤ 16777215 := by omega
      by_cases z0 : ht = 0
      · refine ⟨_, _, _, sr, ?_, co h1 k (by omega)⟩
        simp [stp, z0, sz]
      · by_cases lt : ht < 2 * n - i
        · obtain ⟨r, h2, e1, e2, e3⟩ := sip_ok k.mug (top := 2) (by decide) (by decide)
          have e1 : G__law_sip [.loc m, .int 2] h1 = .ok (.int r) h2 := e1
          by_cases r0 : r = 0
          · refine ⟨_, _, _, sr, ?_, co h2 (k.trans e3) (by omega)⟩
            simp [stp, z0, sz, kMul, e1, r0, show (ht : Int) < 2 * (n : Int) - (i : Int) by omega]
          · refine ⟨_, _, _, sr, ?_, cc h2 (k.trans e3) (by omega)⟩
            simp [stp, z0, sz, kMul, e1, r0, show (ht : Int) < 2 * (n : Int) - (i : Int) by omega]
        · refine ⟨_, _, _, sr, ?_, cc h1 k (by omega)⟩
          simp [stp, z0, sz, kMul, show ¬ (ht : Int) < 2 * (n : Int) - (i : Int) by omega]
          skip) (by
      rintro e h1 ⟨ht, pre, z, rfl, b1, b2, b3, b4, k⟩
      simp)
  have : hi = 0 := by omega
  subst this
  exact ⟨pre, h', by simp, by simpa using b4 [] rfl, b3, b5⟩
end Mg


set_option Elab.async false
set_option linter.all false
set_option maxRecDepth 100000
set_option maxHeartbeats 4000000
set_option autoImplicit false
namespace Fw
open PySem PySem.Spec L2
open PyProof.Rows hiding St
@[simp] theorem sNo_ap (e : En) (h : Hs) : sNo e h = .ok none h := (rfl)
@[simp] theorem sSo_ap (f : Sx) (e : En) (h : Hs) : sSo f e h = fwd (f e h) fun x h' => match x with | .int i => .ok (some i) h' | _ => .bad := (rfl)
@[simp] theorem sSl_ap (f : Sx) (lo hi : Sm (Option Int)) (e : En) (h : Hs) : sSl f lo hi e h = fwd (f e h) fun x h1 => fwd (lo e h1) fun l h2 => fwd (hi e h2) fun u h3 => kSl x l u h3 := (rfl)
theorem lfL_map {α : Type} {g : α → Va} (q : ∀ x, lf (g x) = true) : ∀ xs : List α, lfL (xs.map g) = true
  | [] => rfl
  | x :: xs => by simp only [List.map_cons, lfL, q, lfL_map q xs]; rfl
theorem pureL_of {F : Fn} {xs ys : List Va} {h h' : Hs} {m : Nat} (hx : lfL xs = true) (q : F xs [] = .ok (.loc m) h') (l : h'[m]? = some (.lst ys)) (ly : lfL ys = true) : pureF F xs h = .ok (.loc h.length) (h ++ [.lst ys]) := by
  unfold pureF
  rw [if_pos hx, q]
  simp only [graft, lf, l, ly, if_true]
  rfl
theorem cut_map {α : Type} (g : α → Va) (xs : List α) (lo hi : Option Int) : cutA (xs.map g) lo hi = (cutA xs lo hi).map g := by simp only [cutA, List.length_map, List.map_take, List.map_drop]
theorem cut_len {α : Type} (xs : List α) (lo hi : Option Int) : (cutA xs lo hi).length ≤ xs.length := by
  simp only [cutA, List.length_take, List.length_drop]
  omega
end Fw
namespace Mg
open PySem PySem.Spec L2 Fw Pg
open PyProof.Rows hiding St
theorem mug_ok {ns : List Int} {k : Nat} {h : Hs} (l : ns.length ≤ 63) : ∃ a b c : Int, G__law_mug [.ros (ns.map Va.int), .int k] h = .ok (.loc h.length) (h ++ [.lst [.int a, .int b, .int c]]) := by
  suffices hh : ∃ (a b c : Int) (h' : Hs) (m : Nat), R__law_mug [.ros (ns.map Va.int), .int k] [] = .ok (.loc m) h' ∧ h'[m]? = some (.lst [.int a, .int b, .int c]) by
    obtain ⟨a, b, c, h', m, e1, e2⟩ := hh
    refine ⟨a, b, c, pureL_of ?_ e1 e2 rfl⟩
    simp only [lfL, lf, lfL_map (g := Va.int) (fun _ => rfl) ns]
    rfl
  have cell : ∃ c : Int, sIte (sBl (s2 kLt (sVar 1) (sBlt kLen (sCons (sVar 0) sNil)))) (sBlt kInt (sCons (s2 kIx (sVar 0) (sVar 1)) sNil)) (s2 kAdd (s2 kMul (sK (.int 9257)) (sVar 1)) (sK (.int 113))) [some (.ros (ns.map Va.int)), some (.int k), none, none, none] [] = .ok (.int c) [] := by
    by_cases q : k < ns.length
    · refine ⟨ns[k], ?_⟩
      have : atI (ns.map Va.int) (k : Int) = some (.int ns[k]) := Fw.atI_nat (by simp [q])
      simp [lsA, q, kIx, gIx, this]
    · exact ⟨9257 * k + 113, by simp [lsA, q, kMul]⟩
  obtain ⟨c, hc⟩ := cell
  have cl : (cutA ns none (some 5)).length ≤ 63 := Nat.le_trans (cut_len _ _ _) l
  have ab : ∃ a : Int, ∀ s : Int, ∀ h z, sIte (sOr (sBl (s2 kLt (sVar 2) (sK (.int 0)))) (sBl (s2 kGe (sVar 2) (s2 kPow (sK (.int 10)) (sK (.int 18)))))) (sBlt kAbs (sCons (sVar 2) sNil)) (sK (.int 0)) [some (.ros (ns.map Va.int)), some (.int k), some (.int c), some (.int s), z] h = .ok (.int a) h := by
    by_cases q : c < 0
    · exact ⟨-c, fun s h z => by simp [q]⟩
    · by_cases q2 : (10 : Int) ^ 18 ≤ c
      · exact ⟨c, fun s h z => by
          have q2 : (1000000000000000000 : Int) ≤ c := q2
          simp [q, kPow, q2]⟩
      · exact ⟨0, fun s h z => by
          have q2 : ¬ (1000000000000000000 : Int) ≤ c := q2
          simp [q, kPow, q2]⟩
  obtain ⟨a, ha⟩ := ab
  have n1 : newL [Va.int c] ([.lst ((cutA ns none (some 5)).map Va.int)] : Hs) = .ok (.loc 1) [.lst ((cutA ns none (some 5)).map Va.int), .lst [.int c]] := new_ok (by simp)
  have n0 : newL ((cutA ns none (some 5)).map Va.int) [] = .ok (.loc 0) [.lst ((cutA ns none (some 5)).map Va.int)] := new_ok (by simp; omega)
  have n2 : newL (((cutA ns none (some 5)).map Va.int) ++ [.int c]) [.lst ((cutA ns none (some 5)).map Va.int), .lst [.int c]] = .ok (.loc 2) [.lst ((cutA ns none (some 5)).map Va.int), .lst [.int c], .lst (((cutA ns none (some 5)).map Va.int) ++ [.int c])] := new_ok (by simp; omega)
  have k1 : ∀ h, kMul (.int 661) (.int k) h = .ok (.int (661 * k)) h := fun h => by simp [kMul]
  simp [-sIte_ap, runB_ap, b__law_mug, hc, kSl, cut_map, n0, n1, n2, k1]
  generalize hL : loop _ _ _ _ _ _ = L
  generalize hB : (cutA ns none (some 5)) = B at *
  have em : (B.map Va.int ++ [.int c]) = (B ++ [c]).map Va.int := by simp
  obtain ⟨e', h', rfl, s, z, rfl, rfl⟩ := loop_gen hL (fun i e h => ∃ (s : Int) (z : Option Va), e = [some (.ros (ns.map Va.int)), some (.int k), some (.int c), some (.int s), z] ∧ h = [.lst (B.map Va.int), .lst [.int c], .lst (B.map Va.int ++ [.int c])])
    ⟨_, _, rfl, rfl⟩ (by
      rintro i e h1 hi ⟨s, z, rfl, rfl⟩
      have hi : i < (B ++ [c]).length := by simpa using hi
      have sr : srcL 2 i [.lst (B.map Va.int), .lst [.int c], .lst (B.map Va.int ++ [.int c])] = some (some (.int (B ++ [c])[i])) := by
        simp only [srcL, em, List.getElem?_cons_succ, List.getElem?_cons_zero, List.getElem?_map, List.getElem?_eq_getElem hi, Option.map_some]
      generalize (B ++ [c])[i] = y at sr
      refine ⟨_, _, _, sr, ?_, (s * 55001 + y) % 2147482819, some (.int y), rfl, rfl⟩
      simp [stp, kMul, kInt, kMod]) (by
      rintro e h1 ⟨s, z, rfl, rfl⟩
      simp [srcL])
  simp [-sIte_ap, ha, newL]
  exact ⟨_, _, _, _, _, ⟨rfl, rfl⟩, rfl⟩
end Mg


set_option Elab.async false
set_option linter.all false
set_option maxRecDepth 100000
set_option maxHeartbeats 4000000
set_option autoImplicit false
namespace Dw
def nx (r : Nat) (p : List Nat × Nat) : List (List Nat × Nat) := (if p.2 + 1 < r then [(p.1 ++ [40], p.2 + 1)] else []) ++ (if 0 < p.2 then [(p.1 ++ [41], p.2 - 1)] else [])
def P (N : Nat) : Nat → List (List Nat × Nat)
  | 0 => [([], 0)]
  | t + 1 => (P N t).flatMap (nx (N - t))
theorem all_zero : ∀ l h, l < h → all l h = []
  | 0, 0, q => by omega
  | 0, h + 1, q => rfl
  | l + 1, 0, q => by omega
  | l + 1, h + 1, q => by simp only [all]; rw [all_zero l (h + 2) (by omega), all_zero l h (by omega)]; rfl
theorem nx_all (l : Nat) (p : List Nat × Nat) : (nx (l + 1) p).flatMap (fun p => (all l p.2).map (p.1 ++ ·)) = (all (l + 1) p.2).map (p.1 ++ ·) := by
  obtain ⟨s, g⟩ := p
  cases g with
  | zero =>
    by_cases c : 0 < l
    · simp [nx, all, c, Function.comp_def]
    · have : l = 0 := by omega
      subst this
      simp [nx, all]
  | succ g =>
    by_cases c : g + 2 < l + 1
    · simp [nx, all, show g + 1 < l by omega, Function.comp_def]
    · simp [nx, all, show ¬ g + 1 < l by omega, Function.comp_def, all_zero l (g + 2) (by omega)]
theorem nx_le {r : Nat} {p q : List Nat × Nat} (m : q ∈ nx (r + 1) p) (h : p.2 ≤ r + 1) : q.2 ≤ r ∧ q.1.length = p.1.length + 1 := by
  unfold nx at m
  rcases List.mem_append.mp m with m | m
  · split at m
    · simp at m; subst m; simp; omega
    · simp at m
  · split at m
    · simp at m; subst m; simp; omega
    · simp at m
theorem P_le (N : Nat) : ∀ t, t ≤ N → ∀ p ∈ P N t, p.2 ≤ N - t ∧ p.1.length = t
  | 0, _, p, m => by simp [P] at m; subst m; simp
  | t + 1, q, p, m => by
    obtain ⟨a, m1, m2⟩ := List.mem_flatMap.mp m
    have ih := P_le N t (by omega) a m1
    rw [show N - t = (N - (t + 1)) + 1 by omega] at m2 ih
    have := nx_le m2 ih.1
    omega
theorem P_all (N : Nat) : ∀ t, t ≤ N → (P N t).flatMap (fun p => (all (N - t) p.2).map (p.1 ++ ·)) = all N 0
  | 0, _ => by simp [P]
  | t + 1, q => by
    rw [P, List.flatMap_assoc, ← P_all N t (by omega)]
    rw [show N - t = (N - (t + 1)) + 1 by omega]
    simp only [nx_all]
theorem P_end (N : Nat) : (P N N).map (·.1) = all N 0 := by
  rw [← P_all N N (Nat.le_refl N)]
  have : ∀ ps : List (List Nat × Nat), (∀ p ∈ ps, p.2 = 0) → ps.map (·.1) = ps.flatMap (fun p => (all (N - N) p.2).map (p.1 ++ ·)) := by
    intro ps
    induction ps with
    | nil => intro _; rfl
    | cons p ps ih =>
      intro h
      rw [List.map_cons, List.flatMap_cons, ih fun q m => h q (List.mem_cons_of_mem _ m), h p List.mem_cons_self, Nat.sub_self]
      simp [all]
  refine this _ fun p m => ?_
  have := (P_le N N (Nat.le_refl N) p m).1
  omega
theorem nx_len (r : Nat) (ps : List (List Nat × Nat)) : (ps.flatMap (nx r)).length ≤ 2 * ps.length := by
  induction ps with
  | nil => simp
  | cons p ps ih =>
    have : (nx r p).length ≤ 2 := by unfold nx; split <;> split <;> simp
    rw [List.flatMap_cons, List.length_append, List.length_cons]
    omega
theorem P_len (N : Nat) : ∀ t, (P N t).length ≤ 2 ^ t
  | 0 => by simp [P]
  | t + 1 => by
    have := nx_len (N - t) (P N t)
    have := P_len N t
    rw [P]
    omega
end Dw
namespace Pg
open PySem PySem.Spec L2 Fw
open PyProof.Rows hiding St
def pvA (p : List Nat × Nat) : Va := .tup [.str p.1, .int (p.2 : Nat)]
theorem app_get {h : Hs} {n : Nat} {o : Ob} (q : h.length = n) : (h ++ [o])[n]? = some o := by subst q; simp
theorem app_set {h : Hs} {n : Nat} {o o' : Ob} (q : h.length = n) : (h ++ [o]).set n o' = h ++ [o'] := by subst q; simp
theorem app_app {h : Hs} {n : Nat} {xs : List Va} {y : Va} (q : h.length = n) (l : xs.length < 16777216) : kApp (.loc n) [y] (h ++ [.lst xs]) = .ok .non (h ++ [.lst (xs ++ [y])]) := by
  simp only [kApp, app_get q]
  rw [if_pos l, app_set q]
theorem app_ty {h : Hs} {n : Nat} {xs : List Va} (q : h.length = n) : tyA "list" (.loc n) (h ++ [.lst xs]) = true := by
  simp only [tyA, app_get q]
  rfl
end Pg
namespace Mg
open PySem PySem.Spec L2 Fw Pg
open PyProof.Rows hiding St
theorem every_ok {n : Nat} {h : Hs} (q : n ≤ 7) : G__law_every [.int n] h = .ok (.loc h.length) (h ++ [.lst ((Dw.all (2 * n) 0).map Va.str)]) := by
  suffices hh : ∃ h' m, R__law_every [.int n] [] = .ok (.loc m) h' ∧ h'[m]? = some (.lst ((Dw.all (2 * n) 0).map Va.str)) by
    obtain ⟨h', m, e1, e2⟩ := hh
    exact pureL_of rfl e1 e2 (lfL_map (fun _ => rfl) _)
  have rg : ∀ e1 e2 e3 e4 e5 h, sRg1 (sCons (s2 kMul (sK (.int 2)) (sVar 0)) sNil) [some (.int n), e1, e2, e3, e4, e5] h = .ok (srcR 0 (2 * n), 2 * n) h := fun _ _ _ _ _ _ => rg1_ok (by simp [kMul]) (by omega)
  have n0 : newL [.tup [.str [], .int 0]] [] = .ok (.loc 0) [.lst [.tup [.str [], .int 0]]] := rfl
  simp [runB_ap, b__law_every, rg, n0]
  generalize hL : loop _ _ _ _ _ _ = L
  obtain ⟨e', h', rfl, z2, z3, z4, z5, rfl, b1, b2⟩ := loop_gen hL (fun t e h => ∃ (z2 z3 z4 z5 : Option Va), e = [some (.int n), some (.loc t), z2, z3, z4, z5] ∧ h.length = t + 1 ∧ h[t]? = some (.lst ((Dw.P (2 * n) t).map pvA)))
    ⟨none, none, none, none, rfl, rfl, rfl⟩ (by
      rintro t e h ht ⟨z2, z3, z4, z5, rfl, b1, b2⟩
      have pl := Dw.P_len (2 * n) t
      have p2 : 2 ^ t ≤ 2 ^ 14 := Nat.pow_le_pow_right (by decide) (by omega)
      have sr : srcR 0 (2 * n) t h = some (some (.int (t : Nat))) := by simp [ht]
      have n1 : newL [] h = .ok (.loc (t + 1)) (h ++ [.lst []]) := by rw [new_ok (by simp), b1]
      have b3 : (h ++ [Ob.lst []])[t]? = some (.lst ((Dw.P (2 * n) t).map pvA)) := by rw [List.getElem?_append_left (by omega)]; exact b2
      refine (fun (K : ∃ z4' z5', _ = Rt.nx [some (.int n), some (.loc (t + 1)), some (.int (t : Nat)), some (.loc (t + 1)), z4', z5'] (h ++ [.lst ((Dw.P (2 * n) (t + 1)).map pvA)])) => let ⟨a, b, K⟩ := K; ⟨.int (t : Nat), _, _, sr, K, some (.int (t : Nat)), some (.loc (t + 1)), a, b, rfl, by simp [b1], app_get b1⟩) ?_
      simp [stp, n1, b3]
      generalize hM : loop _ _ _ _ _ _ = M
      obtain ⟨e', h', rfl, z4', z5', rfl, rfl⟩ := loop_gen hM (fun i e h' => ∃ z4 z5 : Option Va, e = [some (.int n), some (.loc t), some (.int (t : Nat)), some (.loc (t + 1)), z4, z5] ∧ h' = h ++ [.lst ((((Dw.P (2 * n) t).take i).flatMap (Dw.nx (2 * n - t))).map pvA)])
        ⟨z4, z5, rfl, by simp⟩ (by
          rintro i e h1 hi ⟨z4, z5, rfl, rfl⟩
          have b4 : ∀ o, (h ++ [o])[t]? = some (.lst ((Dw.P (2 * n) t).map pvA)) := fun o => by rw [List.getElem?_append_left (by omega)]; exact b2
          obtain ⟨p, e1, _⟩ := drop_cons hi
          have pm : p ∈ Dw.P (2 * n) t := List.mem_of_getElem? e1
          have ps := (Dw.P_le (2 * n) t (by omega) p pm).2
          have l1 := Dw.nx_len (2 * n - t) ((Dw.P (2 * n) t).take i)
          rw [List.length_take] at l1
          have tk : ((Dw.P (2 * n) t).take (i + 1)).flatMap (Dw.nx (2 * n - t)) = ((Dw.P (2 * n) t).take i).flatMap (Dw.nx (2 * n - t)) ++ Dw.nx (2 * n - t) p := by
            rw [List.take_add_one, e1]
            simp
          rw [tk]
          generalize ((Dw.P (2 * n) t).take i).flatMap (Dw.nx (2 * n - t)) = Y at *
          have sr : srcL t i (h ++ [.lst (Y.map pvA)]) = some (some (pvA p)) := by simp [srcL, b4, e1]
          have ap1 : ∀ y, kApp (.loc (t + 1)) [y] (h ++ [.lst (Y.map pvA)]) = .ok .non (h ++ [.lst (Y.map pvA ++ [y])]) := fun y => app_app b1 (by simp; omega)
          have ap2 : ∀ x y, kApp (.loc (t + 1)) [y] (h ++ [.lst (Y.map pvA ++ [x])]) = .ok .non (h ++ [.lst (Y.map pvA ++ [x, y])]) := fun x y => by rw [app_app b1 (by simp; omega)]; simp
          have ty : ∀ xs, tyA "list" (.loc (t + 1)) (h ++ [.lst xs]) = true := fun xs => app_ty b1
          refine ⟨pvA p, _, _, sr, ?_, some (.str p.1), some (.int (p.2 : Nat)), rfl, rfl⟩
          by_cases c1 : p.2 + 1 < 2 * n - t
          · by_cases c2 : 0 < p.2
            · simp [stp, pvA, kMul, Dw.nx, c1, c2, ty, ap1, ap2, show (p.2 : Int) + 1 < 2 * (n : Int) - (t : Int) by omega, ps, show t ≤ 16777215 by omega]
              omega
            · simp [stp, pvA, kMul, Dw.nx, c1, c2, ty, ap1, ap2, show (p.2 : Int) + 1 < 2 * (n : Int) - (t : Int) by omega, ps, show t ≤ 16777215 by omega]
          · by_cases c2 : 0 < p.2
            · simp [stp, pvA, kMul, Dw.nx, c1, c2, ty, ap1, ap2, show ¬ (p.2 : Int) + 1 < 2 * (n : Int) - (t : Int) by omega, ps, show t ≤ 16777215 by omega]
              omega
            · simp [stp, pvA, kMul, Dw.nx, c1, c2, ty, ap1, ap2, show ¬ (p.2 : Int) + 1 < 2 * (n : Int) - (t : Int) by omega, ps, show t ≤ 16777215 by omega]) (by
          rintro e h1 ⟨z4, z5, rfl, rfl⟩
          have b4 : ∀ o, (h ++ [o])[t]? = some (.lst ((Dw.P (2 * n) t).map pvA)) := fun o => by rw [List.getElem?_append_left (by omega)]; exact b2
          simp [srcL, b4])
      simp [Dw.P]) (by
      rintro e h ⟨z2, z3, z4, z5, rfl, b1, b2⟩
      simp)
  have : ∃ h2, lcl (srcL (2 * n)) (gTp 2 (gsCons (gNm 4) (gsCons (gNm 5) gsNil))) tru (sVar 4) (Dw.P (2 * n) (2 * n)).length 0 (wipeE [some (.int n), some (.loc (2 * n)), z2, z3, z4, z5] [4, 5]) h' = .ok ((Dw.P (2 * n) (2 * n)).map fun p => Va.str p.1) h2 ∧ h2 = h' := by
    refine lcl_inv _ (by simp) (fun i h => h = h') ?_ ?_ rfl
    · rintro i h hi rfl
      refine ⟨pvA (Dw.P (2 * n) (2 * n))[i], _, _, _, _, .str (Dw.P (2 * n) (2 * n))[i].1, by simp [srcL, b2, hi], by simp [pvA, wipeE]; exact ⟨rfl, rfl⟩, rfl, by simp, by simp [hi], rfl⟩
    · rintro h rfl
      simp [srcL, b2]
  obtain ⟨h2, e, rfl⟩ := this
  have pl := Dw.P_len (2 * n) (2 * n)
  have p2 : 2 ^ (2 * n) ≤ 2 ^ 14 := Nat.pow_le_pow_right (by decide) (by omega)
  simp [b2, e, lst_]
  rw [new_ok (by simp; omega)]
  simp [← Dw.P_end]
  exact ⟨_, _, ⟨rfl, rfl⟩, app_get rfl⟩
end Mg


set_option Elab.async false
set_option linter.all false
set_option maxRecDepth 100000
set_option maxHeartbeats 4000000
set_option autoImplicit false
namespace Fw
open PySem PySem.Spec L2
open PyProof.Rows hiding St
def RprOk (d : PyData) : Prop := d.depth ≤ 60 ∧ d.hasDict = false ∧ d.showable = true ∧ d.shown.length ≤ 16777216
theorem rpr_ok {x : Va} {h : Hs} {d : PyData} (q : rdV h 24 x = some d) (c : RprOk d) : kRpr [x] h = .ok (.str d.shown.cps.toList) h := by
  unfold RprOk at c
  simp only [kRpr, q]
  rw [if_pos c]
theorem rpr_int {i : Nat} (hi : i < 10000000000) : RprOk (.int (i : Nat)) := by
  refine ⟨by simp [PyData.depth], by simp [PyData.hasDict], ?_, ?_⟩
  · simp only [PyData.showable, decide_eq_true_eq, Int.natAbs_natCast]
    by_cases h0 : i = 0
    · subst h0; decide
    · rw [Nat.log2_lt h0]
      exact Nat.lt_trans hi (by decide +kernel)
  · have e : (PyData.int (i : Nat)).shown.length = (Nat.toDigits 10 i).length := by
      show (PySem.Str.ofString (toString ((i : Nat) : Int))).cps.size = _
      rw [← Array.length_toList, PySem.W.KIN.signs_num]
      simp
    rw [e]
    have := PySem.W.KXf.digits_le (a := (i : Int)) (by omega) (by omega)
    simp at this
    omega
theorem list2_len (t : Str) : (listText [t, t]).length = 2 * t.length + 4 := by
  unfold listText
  simp only [textFrom, strLen_append]
  have e1 : (("[" : String) : Str).length = 1 := rfl
  have e2 : (("]" : String) : Str).length = 1 := rfl
  have e3 : ((", " : String) : Str).length = 2 := rfl
  have e4 : (("" : String) : Str).length = 0 := rfl
  simp [strLen_append, e1, e2, e3, e4]
  omega
theorem tuple_len (ts : List Str) : (tupleText ts).length ≤ piled ts + 3 := by
  unfold tupleText
  rw [strLen_append, strLen_append]
  have e1 : (("(" : String) : Str).length = 1 := rfl
  have e2 : ((if ts.length == 1 then ",)" else ")" : String) : Str).length ≤ 2 := by split <;> decide
  cases ts with
  | nil =>
    have e3 : (Str.join ", " []).length = 0 := rfl
    omega
  | cons t ts =>
    have := join_length_add (t :: ts) (by simp)
    omega
theorem piled_le {B : Nat} : ∀ ts : List Str, (∀ t ∈ ts, t.length ≤ B) → piled ts ≤ ts.length * (B + 2)
  | [], _ => by simp [piled]
  | t :: ts, q => by
    have := piled_le ts fun x m => q x (List.mem_cons_of_mem _ m)
    have := q t List.mem_cons_self
    rw [piled_cons, List.length_cons, Nat.succ_mul]
    omega
theorem rpr_ints2 {i : Nat} (hi : i < 10000000000) : RprOk (.list [.int (i : Nat), .int (i : Nat)]) := by
  obtain ⟨a, b, c, d⟩ := rpr_int hi
  refine ⟨by simp [PyData.depth, PyData.depthAll], by simp [PyData.hasDict, PyData.hasDictAll], by simp [PyData.showable, PyData.showableAll]; simpa [PyData.showable] using c, ?_⟩
  show (listText [(PyData.int (i : Nat)).shown, (PyData.int (i : Nat)).shown]).length ≤ _
  rw [list2_len]
  have e : (PyData.int (i : Nat)).shown.length = (Nat.toDigits 10 i).length := by
    show (PySem.Str.ofString (toString ((i : Nat) : Int))).cps.size = _
    rw [← Array.length_toList, PySem.W.KIN.signs_num]
    simp
  have := PySem.W.KXf.digits_le (a := (i : Int)) (by omega) (by omega)
  simp at this
  omega
def strD (x : List Nat) : PyData := .str ⟨x.toArray⟩
theorem strs_dep : ∀ xs : List (List Nat), PyData.depthAll (xs.map strD) = 0
  | [] => by simp [PyData.depthAll]
  | x :: xs => by simp [PyData.depthAll, strs_dep xs, strD, PyData.depth]
theorem strs_nod : ∀ xs : List (List Nat), PyData.hasDictAll (xs.map strD) = false
  | [] => by simp [PyData.hasDictAll]
  | x :: xs => by simp [PyData.hasDictAll, strs_nod xs, strD, PyData.hasDict]
theorem strs_show : ∀ xs : List (List Nat), PyData.showableAll (xs.map strD) = true
  | [] => by simp [PyData.showableAll]
  | x :: xs => by simp [PyData.showableAll, strs_show xs, strD, PyData.showable]
theorem strs_shown : ∀ xs : List (List Nat), PyData.shownAll (xs.map strD) = xs.map fun x => reprText ⟨x.toArray⟩
  | [] => by simp [PyData.shownAll]
  | x :: xs => by simp [PyData.shownAll, strs_shown xs, strD, PyData.shown]
theorem rpr_rows {xs : List (List Nat)} (n : xs.length ≤ 429) (q : ∀ x ∈ xs, x.length ≤ 14 ∧ ∀ c ∈ x, c < 256) : RprOk (.list [.tuple (xs.map strD), .tuple (xs.map strD)]) := by
  refine ⟨by simp [PyData.depth, PyData.depthAll, strs_dep], by simp [PyData.hasDict, PyData.hasDictAll, strs_nod], by simp [PyData.showable, PyData.showableAll, strs_show], ?_⟩
  show (listText [tupleText (PyData.shownAll (xs.map strD)), tupleText (PyData.shownAll (xs.map strD))]).length ≤ _
  rw [list2_len, strs_shown]
  have h1 := tuple_len (xs.map fun x => reprText ⟨x.toArray⟩)
  have h2 := piled_le (B := 142) (xs.map fun x => reprText ⟨x.toArray⟩) (by
    intro t m
    obtain ⟨x, m2, rfl⟩ := List.mem_map.mp m
    obtain ⟨a, b⟩ := q x m2
    have := PySem.StrLaws.reprText_len ⟨x.toArray⟩ (by
      intro c hc
      exact Nat.lt_trans (b c (by simpa using hc)) (by decide))
    have e : (⟨x.toArray⟩ : Str).length = x.length := by simp [Str.length]
    omega)
  rw [List.length_map] at h2
  have h3 : xs.length * (142 + 2) ≤ 429 * (142 + 2) := Nat.mul_le_mul_right _ n
  omega
theorem cnt_nat (c : Nat) : ∀ s : List Nat, cnt c s = (s.count c : Nat)
  | [] => rfl
  | n :: s => by
    rw [cnt_cons, cnt_nat c s, List.count_cons]
    by_cases h : n = c
    · subst h; simp; omega
    · simp [h]
theorem cnt_ok (s : List Nat) (c : Nat) (h : Hs) : kCnt (.str s) [.str [c]] h = .ok (.int (s.count c : Nat)) h := by
  show Rs.ok (Va.int (Txt.count ⟨s.toArray⟩ ⟨#[c]⟩)) h = _
  rw [count_cnt]
  simp [cnt_nat]
end Fw


set_option autoImplicit false
namespace Dw
/-- an arch row: the first foot's arch over a, b behind it -/
inductive Fo where
  | nil | node (a b : Fo)
def sz : Fo → Nat
  | .nil => 0
  | .node a b => sz a + sz b + 2
def word : Fo → List Nat
  | .nil => []
  | .node a b => 40 :: (word a ++ 41 :: word b)
theorem word_len : ∀ f, (word f).length = sz f
  | .nil => rfl
  | .node a b => by simp [word, sz, word_len a, word_len b]; omega
def app : Fo → Fo → Fo
  | .nil, g => g
  | .node a b, g => .node a (app b g)
theorem word_app : ∀ f g, word (app f g) = word f ++ word g
  | .nil, g => rfl
  | .node a b, g => by simp [app, word, word_app b g]
theorem sz_app : ∀ f g, sz (app f g) = sz f + sz g
  | .nil, g => by simp [app, sz]
  | .node a b, g => by simp [app, sz, sz_app b g]; omega
/-- each word that comes down to 0 is a row -/
theorem of_D : ∀ n s h, s.length ≤ n → D h s → ∃ f r, s = word f ++ r ∧ ((h = 0 ∧ r = []) ∨ ∃ g t, h = g + 1 ∧ r = 41 :: t ∧ D g t)
  | 0, [], h, _, q => ⟨.nil, [], rfl, .inl ⟨q, rfl⟩⟩
  | 0, _ :: _, h, l, _ => by simp at l
  | n + 1, [], h, _, q => ⟨.nil, [], rfl, .inl ⟨q, rfl⟩⟩
  | n + 1, c :: s, h, l, q => by
    simp at l
    rcases q with ⟨rfl, q⟩ | ⟨rfl, g, rfl, q⟩
    · obtain ⟨a, r, e, w⟩ := of_D n s (h + 1) (by omega) q
      rcases w with ⟨w, _⟩ | ⟨g, t, w1, w2, w3⟩
      · omega
      · have : g = h := by omega
        subst this w2
        have lt : t.length ≤ n := by
          have := congrArg List.length e
          simp at this
          omega
        obtain ⟨b, r2, e2, w⟩ := of_D n t g lt w3
        exact ⟨.node a b, r2, by rw [e, e2]; simp [word], w⟩
    · exact ⟨.nil, 41 :: s, rfl, .inr ⟨g, s, rfl, rfl, q⟩⟩
theorem row_of_D {s : List Nat} (q : D 0 s) : ∃ f, s = word f := by
  obtain ⟨f, r, e, w⟩ := of_D s.length s 0 (Nat.le_refl _) q
  rcases w with ⟨_, rfl⟩ | ⟨g, t, w, _⟩
  · exact ⟨f, by simpa using e⟩
  · omega
theorem D_app : ∀ f h t, D h t → D h (word f ++ t)
  | .nil, h, t, q => q
  | .node a b, h, t, q => by
    refine .inl ⟨rfl, ?_⟩
    show D (h + 1) ((word a ++ 41 :: word b) ++ t)
    rw [List.append_assoc]
    exact D_app a (h + 1) _ (.inr ⟨rfl, h, rfl, D_app b h t q⟩)
theorem D_word (f : Fo) : D 0 (word f) := by simpa using D_app f 0 [] rfl
/-- the mates, from foot p on -/
def M : Nat → Fo → List Nat
  | _, .nil => []
  | p, .node a b => (p + sz a + 1) :: (M (p + 1) a ++ p :: M (p + sz a + 2) b)
theorem M_len : ∀ f p, (M p f).length = sz f
  | .nil, _ => rfl
  | .node a b, p => by simp [M, sz, M_len a, M_len b]; omega
/-- the arches, ascending -/
def Pr : Nat → Fo → List (Nat × Nat)
  | _, .nil => []
  | p, .node a b => (p, p + sz a + 1) :: (Pr (p + 1) a ++ Pr (p + sz a + 2) b)
/-- the arches as they close -/
def Cl : Nat → Fo → List (Nat × Nat)
  | _, .nil => []
  | p, .node a b => Cl (p + 1) a ++ (p, p + sz a + 1) :: Cl (p + sz a + 2) b
theorem Cl_perm : ∀ f p, (Cl p f).Perm (Pr p f)
  | .nil, _ => .refl _
  | .node a b, p => by
    unfold Cl Pr
    exact (((Cl_perm a _).append ((Cl_perm b _).cons _))).trans List.perm_middle
theorem Pr_in : ∀ f p q, q ∈ Pr p f → p ≤ q.1 ∧ q.1 < q.2 ∧ q.2 < p + sz f
  | .nil, p, q, m => by simp [Pr] at m
  | .node a b, p, q, m => by
    unfold Pr at m
    rcases List.mem_cons.mp m with rfl | m
    · simp [sz]; omega
    · rcases List.mem_append.mp m with m | m
      · have := Pr_in a _ q m; simp [sz]; omega
      · have := Pr_in b _ q m; simp [sz]; omega
theorem Pr_up : ∀ f p, (Pr p f).Pairwise fun x y => x.1 < y.1
  | .nil, _ => .nil
  | .node a b, p => by
    unfold Pr
    refine .cons (fun q m => ?_) (List.pairwise_append.mpr ⟨Pr_up a _, Pr_up b _, fun x hx y hy => ?_⟩)
    · rcases List.mem_append.mp m with m | m
      · have := Pr_in a _ q m; simp; omega
      · have := Pr_in b _ q m; simp; omega
    · have := Pr_in a _ x hx
      have := Pr_in b _ y hy
      omega
theorem Pr_app : ∀ f g p, Pr p (app f g) = Pr p f ++ Pr (p + sz f) g
  | .nil, g, p => by simp [app, Pr, sz]
  | .node a b, g, p => by
    simp only [app, Pr, sz, Pr_app b g]
    simp
    congr 1
    omega
theorem M_app : ∀ f g p, M p (app f g) = M p f ++ M (p + sz f) g
  | .nil, g, p => by simp [app, M, sz]
  | .node a b, g, p => by
    simp only [app, M, sz, M_app b g]
    simp
    congr 1
    omega
/-- the first foot becomes the last one -/
def tu : Fo → Fo
  | .nil => .nil
  | .node a b => app a (.node b .nil)
def mir : Fo → Fo
  | .nil => .nil
  | .node a b => app (mir b) (.node (mir a) .nil)
def dep : Fo → Nat
  | .nil => 0
  | .node a b => max (dep a + 1) (dep b)
def sh : Fo → Nat
  | .nil => 0
  | .node .nil b => sh b + 1
  | .node (.node a c) b => sh (.node a c) + sh b
theorem sz_tu : ∀ f, sz (tu f) = sz f
  | .nil => rfl
  | .node a b => by simp [tu, sz_app, sz, Nat.add_assoc]
theorem word_tu (a b : Fo) : word (tu (.node a b)) = word a ++ 40 :: (word b ++ [41]) := by simp [tu, word_app, word]
theorem sz_mir : ∀ f, sz (mir f) = sz f
  | .nil => rfl
  | .node a b => by simp [mir, sz_app, sz, sz_mir a, sz_mir b]; omega
theorem word_mir : ∀ f, word (mir f) = (word f).reverse.map fun c => if c = 40 then 41 else 40
  | .nil => rfl
  | .node a b => by
    simp only [mir, word_app, word, word_mir a, word_mir b]
    simp
theorem dep_app : ∀ f g, dep (app f g) = max (dep f) (dep g)
  | .nil, g => by simp [app, dep]
  | .node a b, g => by simp [app, dep, dep_app b g]
theorem dep_mir : ∀ f, dep (mir f) = dep f
  | .nil => rfl
  | .node a b => by simp [mir, dep_app, dep, dep_mir a, dep_mir b]; omega
theorem mir_app : ∀ f g, mir (app f g) = app (mir g) (mir f)
  | .nil, g => by
    have : ∀ f, app f .nil = f := by
      intro f
      induction f with
      | nil => rfl
      | node a b _ ih => simp [app, ih]
    simp [app, mir, this]
  | .node a b, g => by
    have as : ∀ f g h, app (app f g) h = app f (app g h) := by
      intro f g h
      induction f with
      | nil => rfl
      | node a b _ ih => simp [app, ih]
    simp [app, mir, mir_app b g, as]
theorem mir_mir : ∀ f, mir (mir f) = f
  | .nil => rfl
  | .node a b => by simp [mir, mir_app, mir_mir a, mir_mir b, app]
theorem sh_node (a b : Fo) (h : a ≠ .nil) : sh (.node a b) = sh a + sh b := by
  cases a with
  | nil => exact absurd rfl h
  | node a c => rfl
theorem sh_app : ∀ f g, sh (app f g) = sh f + sh g
  | .nil, g => by simp [app, sh]
  | .node .nil b, g => by simp [app, sh, sh_app b g]; omega
  | .node (.node a c) b, g => by simp [app, sh, sh_app b g]; omega
theorem app_node (f a b : Fo) : app f (.node a b) ≠ .nil := by cases f <;> simp [app]
theorem sh_mir : ∀ f, sh (mir f) = sh f
  | .nil => rfl
  | .node .nil b => by simp [mir, sh_app, sh, sh_mir b]
  | .node (.node a c) b => by
    have e := sh_mir (.node a c)
    have n : mir (.node a c) ≠ .nil := by simp only [mir]; exact app_node _ _ _
    rw [mir, sh_app, sh_node _ _ n, e, sh_mir b]
    simp [sh]
    omega
theorem M_up : ∀ f p d, M (p + d) f = (M p f).map (· + d)
  | .nil, p, d => rfl
  | .node a b, p, d => by
    have e1 : p + d + 1 = p + 1 + d := by omega
    have e2 : p + d + sz a + 2 = p + sz a + 2 + d := by omega
    simp only [M, List.map_cons, List.map_append]
    rw [e1, e2, M_up a, M_up b]
    congr 1
    omega
theorem M_in : ∀ f p m, m ∈ M p f → p ≤ m ∧ m < p + sz f
  | .nil, p, m, h => by simp [M] at h
  | .node a b, p, m, h => by
    unfold M at h
    rcases List.mem_cons.mp h with rfl | h
    · simp [sz]; omega
    · rcases List.mem_append.mp h with h | h
      · have := M_in a _ m h; simp [sz]; omega
      · rcases List.mem_cons.mp h with rfl | h
        · simp [sz]
        · have := M_in b _ m h; simp [sz]; omega
def sg : Nat → List Nat → List Nat
  | _, [] => []
  | p, m :: ms => (if p < m then 40 else 41) :: sg (p + 1) ms
theorem sg_app : ∀ xs ys p, sg p (xs ++ ys) = sg p xs ++ sg (p + xs.length) ys
  | [], ys, p => by simp [sg]
  | x :: xs, ys, p => by
    simp only [List.cons_append, sg, sg_app xs ys, List.length_cons]
    rw [show p + 1 + xs.length = p + (xs.length + 1) by omega]
theorem word_sg : ∀ f p, word f = sg p (M p f)
  | .nil, p => rfl
  | .node a b, p => by
    have e : p + 1 + sz a + 1 = p + sz a + 2 := by omega
    simp only [M, sg, sg_app, word, M_len]
    rw [if_pos (by omega), if_neg (by omega), e, ← word_sg a, ← word_sg b]
/-- one foot back round the circle of n -/
def bk (n x : Nat) : Nat := if x = 0 then n - 1 else x - 1
def rl : List Nat → List Nat
  | [] => []
  | x :: xs => xs ++ [x]
theorem M_tu (f : Fo) : M 0 (tu f) = (rl (M 0 f)).map (bk (sz f)) := by
  cases f with
  | nil => rfl
  | node a b =>
    have up : ∀ f p, (M (p + 1) f).map (bk (sz (.node a b))) = M p f := fun f p => by
      rw [M_up f p 1, List.map_map]
      conv => rhs; rw [← List.map_id (M p f)]
      refine List.map_congr_left fun x _ => ?_
      simp [bk]
    simp only [tu, M_app, M, rl, Nat.zero_add]
    rw [List.map_append, List.map_append, List.map_cons, up a 0, show sz a + 2 = sz a + 1 + 1 by omega, up b (sz a + 1)]
    simp [bk, sz]

theorem rl_len : ∀ xs : List Nat, (rl xs).length = xs.length
  | [] => rfl
  | x :: xs => by simp [rl]
theorem rl_map (g : Nat → Nat) : ∀ xs, rl (xs.map g) = (rl xs).map g
  | [] => rfl
  | x :: xs => by simp [rl]
def it {α : Type} (g : α → α) : Nat → α → α
  | 0, x => x
  | n + 1, x => it g n (g x)
theorem sz_it : ∀ k f, sz (it tu k f) = sz f
  | 0, f => rfl
  | k + 1, f => by rw [it, sz_it k, sz_tu]
theorem M_it : ∀ k f, M 0 (it tu k f) = (it rl k (M 0 f)).map (it (bk (sz f)) k)
  | 0, f => by simp [it]
  | k + 1, f => by
    have cm : ∀ k g xs, it rl k (xs.map g) = (it rl k xs).map g := by
      intro k
      induction k with
      | zero => intro g xs; rfl
      | succ k ih => intro g xs; rw [it, rl_map, ih]; rfl
    rw [it, M_it k, M_tu, sz_tu, cm, List.map_map]
    rfl
theorem rl_it : ∀ xs ys : List Nat, it rl xs.length (xs ++ ys) = ys ++ xs
  | [], ys => by simp [it]
  | x :: xs, ys => by
    rw [List.length_cons, it]
    show it rl xs.length (xs ++ ys ++ [x]) = _
    rw [List.append_assoc, rl_it xs (ys ++ [x])]
    simp
theorem bk_lt {n x : Nat} (h : x < n) : bk n x < n := by unfold bk; split <;> omega
theorem bk_down {n : Nat} : ∀ k x, k ≤ x → it (bk n) k x = x - k
  | 0, x, _ => rfl
  | k + 1, x, h => by
    rw [it, show bk n x = x - 1 by unfold bk; rw [if_neg (by omega)], bk_down k (x - 1) (by omega)]
    omega
theorem it_add {α : Type} (g : α → α) : ∀ j k x, it g (j + k) x = it g k (it g j x)
  | 0, k, x => by rw [Nat.zero_add]; rfl
  | j + 1, k, x => by rw [show j + 1 + k = (j + k) + 1 by omega, it, it_add g j k]; rfl
theorem bk_all {n x : Nat} (h : x < n) : it (bk n) n x = x := by
  have e : n = x + (1 + (n - 1 - x)) := by omega
  conv => lhs; rw [show it (bk n) n x = it (bk n) (x + (1 + (n - 1 - x))) x from by rw [← e]]
  rw [it_add, bk_down x x (Nat.le_refl _), it_add, Nat.sub_self]
  show it (bk n) (n - 1 - x) (bk n 0) = x
  rw [show bk n 0 = n - 1 from rfl, bk_down _ _ (by omega)]
  omega
/-- as many turns as feet lead back -/
theorem turns (f : Fo) : word (it tu (sz f) f) = word f := by
  have e : M 0 (it tu (sz f) f) = M 0 f := by
    rw [M_it]
    have := rl_it (M 0 f) []
    rw [M_len, List.append_nil, List.nil_append] at this
    rw [this]
    conv => rhs; rw [← List.map_id (M 0 f)]
    refine List.map_congr_left fun x hx => ?_
    have := M_in f 0 x hx
    rw [bk_all (by omega)]
    rfl
  rw [word_sg _ 0, e, ← word_sg]
end Dw

set_option Elab.async false
set_option linter.all false
set_option maxRecDepth 100000
set_option maxHeartbeats 4000000
set_option autoImplicit false
namespace Fw
open PySem PySem.Spec L2
open PyProof.Rows hiding St
theorem loop_one {s : Src} {b : Va → Ss} {k i : Nat} {e e' : En} {h h' : Hs} {x : Va} (a : s i h = some (some x)) (c : b x e h = .nx e' h') : loop s b (k + 1) i e h = loop s b k (i + 1) e' h' := by
  simp only [loop, a, c, aft]
/-- a loop along the signs of a row, with the feet that are still open -/
theorem loop_fo {α : Type} {s : Src} {b : Va → Ss} {w : List Nat} (I : Nat → List Nat → α → En → Hs → Prop) (cl : α → Nat → Nat → α)
    (op : ∀ i st a e h, w[i]? = some 40 → I i st a e h → ∃ x e' h', s i h = some (some x) ∧ b x e h = .nx e' h' ∧ I (i + 1) (st ++ [i]) a e' h')
    (cs : ∀ i st o a e h, w[i]? = some 41 → I i (st ++ [o]) a e h → ∃ x e' h', s i h = some (some x) ∧ b x e h = .nx e' h' ∧ I (i + 1) st (cl a o i) e' h') :
    ∀ (f : Dw.Fo) (i : Nat) (r st : List Nat) (a : α) (e : En) (h : Hs) (k : Nat), w.drop i = Dw.word f ++ r → I i st a e h →
      ∃ e' h', loop s b (Dw.sz f + k) i e h = loop s b k (i + Dw.sz f) e' h' ∧ I (i + Dw.sz f) st ((Dw.Cl i f).foldl (fun a q => cl a q.1 q.2) a) e' h'
  | .nil, i, r, st, a, e, h, k, d, q => ⟨e, h, by simp [Dw.sz], by simpa [Dw.sz, Dw.Cl] using q⟩
  | .node f g, i, r, st, a, e, h, k, d, q => by
    have at_ : ∀ j c t, w.drop j = c :: t → w[j]? = some c ∧ w.drop (j + 1) = t := fun j c t e => by
      refine ⟨?_, ?_⟩
      · have : w[j]? = (w.drop j)[0]? := by rw [List.getElem?_drop]; rfl
        rw [this, e]; rfl
      · rw [show j + 1 = j + 1 from rfl, ← List.drop_drop, e]; rfl
    obtain ⟨w1, d1⟩ := at_ i 40 (Dw.word f ++ 41 :: (Dw.word g ++ r)) (by rw [d]; simp [Dw.word])
    obtain ⟨x, e1, h1, a1, a2, a3⟩ := op i st a e h w1 q
    obtain ⟨e2, h2, b1, b2⟩ := loop_fo I cl op cs f (i + 1) _ (st ++ [i]) a e1 h1 (Dw.sz g + 1 + k) d1 a3
    have d2 : w.drop (i + 1 + Dw.sz f) = 41 :: (Dw.word g ++ r) := by
      rw [← List.drop_drop, d1, List.drop_append_of_le_length (by rw [Dw.word_len]; exact Nat.le_refl _), List.drop_of_length_le (by rw [Dw.word_len]; exact Nat.le_refl _)]
      rfl
    obtain ⟨w2, d3⟩ := at_ _ 41 _ d2
    obtain ⟨y, e3, h3, c1, c2, c3⟩ := cs _ st i _ e2 h2 w2 b2
    obtain ⟨e4, h4, g1, g2⟩ := loop_fo I cl op cs g (i + 1 + Dw.sz f + 1) r st _ e3 h3 k d3 c3
    refine ⟨e4, h4, ?_, ?_⟩
    · have l1 : Dw.sz (.node f g) + k = (Dw.sz f + (Dw.sz g + 1 + k)) + 1 := by simp [Dw.sz]; omega
      have l2 : Dw.sz g + 1 + k = (Dw.sz g + k) + 1 := by omega
      have l3 : i + Dw.sz (.node f g) = i + 1 + Dw.sz f + 1 + Dw.sz g := by simp [Dw.sz]; omega
      rw [l1, loop_one a1 a2, b1, l2, loop_one c1 c2, g1, l3]
    · have l3 : i + Dw.sz (.node f g) = i + 1 + Dw.sz f + 1 + Dw.sz g := by simp [Dw.sz]; omega
      have l4 : i + Dw.sz f + 2 = i + 1 + Dw.sz f + 1 := by omega
      have l5 : i + Dw.sz f + 1 = i + 1 + Dw.sz f := by omega
      rw [l3]
      simp only [Dw.Cl, List.foldl_append, List.foldl_cons, l4, l5]
      exact g2
end Fw
namespace Dw
/-- xs put into ms from place i on -/
def putA (ms : List Nat) (i : Nat) (xs : List Nat) : List Nat := ms.take i ++ xs ++ ms.drop (i + xs.length)
theorem putA_len (ms : List Nat) (i : Nat) (xs : List Nat) (h : i + xs.length ≤ ms.length) : (putA ms i xs).length = ms.length := by simp [putA]; omega
theorem putA_at (ms : List Nat) (i : Nat) (xs : List Nat) (h : i + xs.length ≤ ms.length) (j : Nat) : (putA ms i xs)[j]? = if i ≤ j ∧ j < i + xs.length then xs[j - i]? else ms[j]? := by
  unfold putA
  by_cases c : j < i
  · rw [if_neg (by omega), List.append_assoc, List.getElem?_append_left (by simp; omega), List.getElem?_take_of_lt c]
  · by_cases c2 : j < i + xs.length
    · rw [if_pos ⟨by omega, c2⟩, List.append_assoc, List.getElem?_append_right (by simp; omega), List.getElem?_append_left (by simp; omega)]
      congr 1
      simp
      omega
    · rw [if_neg (by omega), List.getElem?_append_right (by simp; omega), List.getElem?_drop]
      congr 1
      simp
      omega
def cm (ms : List Nat) (o i : Nat) : List Nat := (ms.set i o).set o i
theorem fold_M : ∀ f p ms, p + sz f ≤ ms.length → (Cl p f).foldl (fun a q => cm a q.1 q.2) ms = putA ms p (M p f)
  | .nil, p, ms, h => by simp [Cl, M, putA]
  | .node a b, p, ms, h => by
    have h' : p + (sz a + sz b + 2) ≤ ms.length := h
    have e : p + 1 + sz a + 1 = p + sz a + 2 := by omega
    simp only [Cl, List.foldl_append, List.foldl_cons]
    rw [fold_M a (p + 1) ms (by omega)]
    have l1 : (putA ms (p + 1) (M (p + 1) a)).length = ms.length := putA_len _ _ _ (by rw [M_len]; omega)
    have l2 : (cm (putA ms (p + 1) (M (p + 1) a)) p (p + sz a + 1)).length = ms.length := by simp [cm, l1]
    rw [fold_M b (p + sz a + 2) _ (by rw [l2]; omega)]
    apply List.ext_getElem?
    intro j
    rw [putA_at _ _ _ (by rw [l2, M_len]; omega), putA_at _ _ _ (by rw [M_len]; exact h), M_len, M_len]
    simp only [cm]
    by_cases c1 : p + sz a + 2 ≤ j ∧ j < p + sz a + 2 + sz b
    · rw [if_pos c1, if_pos (by simp [sz]; omega)]
      simp only [M]
      rw [show j - p = (j - p - 1) + 1 by omega, List.getElem?_cons_succ, List.getElem?_append_right (by rw [M_len]; omega), M_len, show j - p - 1 - sz a = (j - (p + sz a + 2)) + 1 by omega, List.getElem?_cons_succ]
    · rw [if_neg c1]
      by_cases c2 : j = p
      · subst c2
        rw [List.getElem?_set_self (by simp [l1]; omega), if_pos (by simp [sz]), Nat.sub_self]
        rfl
      · rw [List.getElem?_set_ne (Ne.symm c2)]
        by_cases c3 : j = p + sz a + 1
        · subst c3
          rw [List.getElem?_set_self (by rw [l1]; omega), if_pos (by simp [sz]; omega)]
          simp only [M]
          rw [show p + sz a + 1 - p = sz a + 1 by omega, List.getElem?_cons_succ, List.getElem?_append_right (by rw [M_len]; omega), M_len, Nat.sub_self]
          rfl
        · rw [List.getElem?_set_ne (Ne.symm c3), putA_at _ _ _ (by rw [M_len]; omega), M_len]
          by_cases c4 : p + 1 ≤ j ∧ j < p + 1 + sz a
          · rw [if_pos c4, if_pos (by simp [sz]; omega)]
            simp only [M]
            rw [show j - p = (j - (p + 1)) + 1 by omega, List.getElem?_cons_succ, List.getElem?_append_left (by rw [M_len]; omega)]
          · rw [if_neg c4, if_neg (by simp [sz]; omega)]
theorem fold_all (f : Fo) (ms : List Nat) (h : ms.length = sz f) : (Cl 0 f).foldl (fun a q => cm a q.1 q.2) ms = M 0 f := by
  rw [fold_M f 0 ms (by omega)]
  simp [putA, M_len, h]
theorem fold_Cl (f : Fo) (p : Nat) : (Cl p f).foldl (fun a (q : Nat × Nat) => a ++ [(q.1, q.2)]) [] = Cl p f := by
  have : ∀ (l acc : List (Nat × Nat)), l.foldl (fun a (q : Nat × Nat) => a ++ [(q.1, q.2)]) acc = acc ++ l := by
    intro l
    induction l with
    | nil => intro acc; simp
    | cons x l ih => intro acc; rw [List.foldl_cons, ih]; simp
  rw [this]
  rfl
end Dw


set_option Elab.async false
set_option linter.all false
set_option maxRecDepth 100000
set_option maxHeartbeats 4000000
set_option autoImplicit false
namespace Pg
open PySem PySem.Spec L2 Fw
open PyProof.Rows hiding St
def vN (i : Nat) : Va := .int (i : Nat)
theorem flat_rep : ∀ (n : Nat) (x : Va), (List.replicate n [x]).flatten = List.replicate n x
  | 0, x => rfl
  | n + 1, x => by simp [List.replicate_succ, flat_rep n x]
theorem mates_ok {f : Dw.Fo} {h : Hs} (l : Dw.sz f ≤ 24) : G_mates_of [.str (Dw.word f)] h = .ok (.loc h.length) (h ++ [.lst ((Dw.M 0 f).map vN)]) := by
  suffices hh : ∃ h' m, R_mates_of [.str (Dw.word f)] [] = .ok (.loc m) h' ∧ h'[m]? = some (.lst ((Dw.M 0 f).map vN)) by
    obtain ⟨h', m, e1, e2⟩ := hh
    exact pureL_of rfl e1 e2 (lfL_map (fun _ => rfl) _)
  have wl := Dw.word_len f
  generalize hw : Dw.word f = w at *
  have n0 : newL [.int 0] [] = .ok (.loc 0) [.lst [.int 0]] := rfl
  have n1 : kMul (.loc 0) (.int (w.length : Nat)) [.lst [.int 0]] = .ok (.loc 1) [.lst [.int 0], .lst ((List.replicate w.length 0).map vN)] := by
    have e : ([Ob.lst [Va.int 0]] : Hs)[0]? = some (.lst [.int 0]) := rfl
    simp only [kMul, e]
    rw [if_pos (by simp; omega), Int.toNat_natCast, flat_rep, new_ok (by simp; omega)]
    simp [vN]
  have n2 : ∀ a b : Ob, newL [] [a, b] = .ok (.loc 2) [a, b, .lst []] := fun a b => rfl
  have nl : ∀ e h, sBlt kLen (sCons (sVar 0) sNil) (some (Va.str w) :: e) h = .ok (.int (w.length : Nat)) h := fun e h => by simp [show w.length ≤ 16777216 by omega]
  simp [-sBlt_ap, runB_ap, b_mates_of, sEnuT, enT, n0, n1, n2, nl]
  generalize hL : loop _ _ _ _ _ _ = L
  obtain ⟨e', h', g1, z3, z4, z5, g2, g3, g4⟩ := loop_fo (s := srcEV (w.map fun c => Va.str [c])) (b := stp (gTp 2 (gsCons (gNm 3) (gsCons (gNm 4) gsNil))) (sIf (sBl (s2 kEq (sVar 4) (sK (.str [40])))) (sDrop (sMth "list" kApp (sVar 2) (sCons (sVar 3) sNil))) (seq (sSet 5 (sMth "list" kPop (sVar 2) sNil)) (seq (sAsg (sVar 5) (gSb (sVar 1) (sVar 3))) (sAsg (sVar 3) (gSb (sVar 1) (sVar 5))))))) (w := w)
    (fun i st ms e h => ∃ z3 z4 z5 : Option Va, e = [some (.str w), some (.loc 1), some (.loc 2), z3, z4, z5] ∧ h = [.lst [.int 0], .lst (ms.map vN), .lst (st.map vN)] ∧ ms.length = w.length ∧ (∀ o ∈ st, o < w.length) ∧ st.length ≤ i) Dw.cm
    (by
      rintro i st ms e h hi ⟨z3, z4, z5, rfl, rfl, g, gs, gl⟩
      have il := (List.getElem?_eq_some_iff.mp hi).1
      have sr : srcEV (w.map fun c => Va.str [c]) i [.lst [.int 0], .lst (ms.map vN), .lst (st.map vN)] = some (some (.tup [.int (i : Nat), .str [40]])) := by simp [srcEV, hi]
      have ap : kApp (.loc 2) [.int (i : Nat)] [.lst [.int 0], .lst (ms.map vN), .lst (st.map vN)] = .ok .non [.lst [.int 0], .lst (ms.map vN), .lst ((st ++ [i]).map vN)] := by
        have e : ([Ob.lst [Va.int 0], .lst (ms.map vN), .lst (st.map vN)] : Hs)[2]? = some (.lst (st.map vN)) := rfl
        simp only [kApp, e]
        rw [if_pos (by simp; omega)]
        simp [vN]
      refine ⟨_, _, _, sr, ?_, some (.int (i : Nat)), some (.str [40]), z5, rfl, rfl, g, ?_, by simp; omega⟩
      · simp [stp, tyA, ap]
      · intro o ho
        rcases List.mem_append.mp ho with ho | ho
        · exact gs o ho
        · simp at ho; omega)
    (by
      rintro i st o ms e h hi ⟨z3, z4, z5, rfl, rfl, g, gs, gl⟩
      have il := (List.getElem?_eq_some_iff.mp hi).1
      have ol : o < w.length := gs o (by simp)
      have sr : srcEV (w.map fun c => Va.str [c]) i [.lst [.int 0], .lst (ms.map vN), .lst ((st ++ [o]).map vN)] = some (some (.tup [.int (i : Nat), .str [41]])) := by simp [srcEV, hi]
      have pp : kPop (.loc 2) [] [.lst [.int 0], .lst (ms.map vN), .lst ((st ++ [o]).map vN)] = .ok (.int (o : Nat)) [.lst [.int 0], .lst (ms.map vN), .lst (st.map vN)] := by
        have e : ([Ob.lst [Va.int 0], .lst (ms.map vN), .lst ((st ++ [o]).map vN)] : Hs)[2]? = some (.lst ((st ++ [o]).map vN)) := rfl
        simp only [kPop, e]
        simp [vN]
      simp only [List.map_append, List.map_cons, List.map_nil] at pp
      have s1 : kSet (.loc 1) (.int (i : Nat)) (.int (o : Nat)) [.lst [.int 0], .lst (ms.map vN), .lst (st.map vN)] = some [.lst [.int 0], .lst ((ms.set i o).map vN), .lst (st.map vN)] := by
        rw [ks_nat (xs := ms.map vN) rfl (by simp; omega)]
        simp [vN, List.map_set]
      have s2 : kSet (.loc 1) (.int (o : Nat)) (.int (i : Nat)) [.lst [.int 0], .lst ((ms.set i o).map vN), .lst (st.map vN)] = some [.lst [.int 0], .lst ((Dw.cm ms o i).map vN), .lst (st.map vN)] := by
        rw [ks_nat (xs := (ms.set i o).map vN) rfl (by simp; omega)]
        simp [vN, List.map_set, Dw.cm]
      rw [List.map_set] at s1 s2
      refine ⟨_, _, _, sr, ?_, some (.int (i : Nat)), some (.str [41]), some (.int (o : Nat)), rfl, rfl, by simp [Dw.cm, g], fun x hx => gs x (by simp [hx]), by simp at gl; omega⟩
      simp [stp, tyA, pp, gSb_ap, s1, s2])
    f 0 [] [] (List.replicate w.length 0) [some (.str w), some (.loc 1), some (.loc 2), none, none, none] [.lst [.int 0], .lst ((List.replicate w.length 0).map vN), .lst []] 0 (by simp [hw]) ⟨none, none, none, rfl, rfl, by simp, by simp, by simp⟩
  rw [Nat.add_zero, Nat.zero_add, List.map_replicate] at g1
  rw [wl] at hL g1
  rw [g1] at hL
  subst g2 g3
  have en : loop (srcEV (w.map fun c => Va.str [c])) (stp (gTp 2 (gsCons (gNm 3) (gsCons (gNm 4) gsNil))) (sIf (sBl (s2 kEq (sVar 4) (sK (.str [40])))) (sDrop (sMth "list" kApp (sVar 2) (sCons (sVar 3) sNil))) (seq (sSet 5 (sMth "list" kPop (sVar 2) sNil)) (seq (sAsg (sVar 5) (gSb (sVar 1) (sVar 3))) (sAsg (sVar 3) (gSb (sVar 1) (sVar 5))))))) 0 (Dw.sz f) = fun e h => .nx e h := by
    funext e h
    simp [loop, srcEV, wl]
  rw [en] at hL
  subst hL
  simp
  refine ⟨_, _, ⟨rfl, rfl⟩, ?_⟩
  rw [Dw.fold_all f _ (by simp [wl])]
  rfl
end Pg


set_option Elab.async false
set_option linter.all false
set_option maxRecDepth 100000
set_option maxHeartbeats 4000000
set_option autoImplicit false
namespace Pg
open PySem PySem.Spec L2 Fw
open PyProof.Rows hiding St
def vP (q : Nat × Nat) : Va := .tup [.int (q.1 : Nat), .int (q.2 : Nat)]
def zP (q : Nat × Nat) : Int × Int := ((q.1 : Nat), (q.2 : Nat))
theorem srt_Cl (f : Dw.Fo) (p : Nat) : srtP ((Dw.Cl p f).map zP) = (Dw.Pr p f).map zP := by
  refine sortedP_one ((srtP_perm _).trans ((Dw.Cl_perm f p).map zP)) (srtP_sorted _) ?_
  refine List.pairwise_map.mpr ((Dw.Pr_up f p).imp fun {a b} h => ?_)
  unfold leP zP
  simp
  omega
end Pg
namespace Mg
open PySem PySem.Spec L2 Fw Pg
open PyProof.Rows hiding St
theorem duos_ok {f : Dw.Fo} {h : Hs} (l : Dw.sz f ≤ 24) : G__law_duos [.str (Dw.word f)] h = .ok (.loc h.length) (h ++ [.lst ((Dw.Pr 0 f).map vP)]) := by
  suffices hh : ∃ h' m, R__law_duos [.str (Dw.word f)] [] = .ok (.loc m) h' ∧ h'[m]? = some (.lst ((Dw.Pr 0 f).map vP)) by
    obtain ⟨h', m, e1, e2⟩ := hh
    exact pureL_of rfl e1 e2 (lfL_map (fun _ => rfl) _)
  have wl := Dw.word_len f
  generalize hw : Dw.word f = w at *
  have rg : ∀ e1 e2 e3 h, sRg1 (sCons (sBlt kLen (sCons (sVar 0) sNil)) sNil) [some (.str w), e1, e2, e3] h = .ok (srcR 0 w.length, w.length) h := fun _ _ _ _ => rg1_ok (by simp [show w.length ≤ 16777216 by omega]) (by omega)
  have n0 : newL [] [] = .ok (.loc 0) [.lst []] := rfl
  have n1 : ∀ a : Ob, newL [] [a] = .ok (.loc 1) [a, .lst []] := fun a => rfl
  simp [runB_ap, b__law_duos, rg, n0, n1]
  generalize hL : loop _ _ _ _ _ _ = L
  obtain ⟨e', h', g1, z3, g2, g3, g4⟩ := loop_fo (s := srcR 0 w.length) (b := stp (gNm 3) (sIf (sBl (s2 kEq (s2 kIx (sVar 0) (sVar 3)) (sK (.str [40])))) (sDrop (sMth "list" kApp (sVar 1) (sCons (sVar 3) sNil))) (sDrop (sMth "list" kApp (sVar 2) (sCons (sTup (sCons (sMth "list" kPop (sVar 1) sNil) (sCons (sVar 3) sNil))) sNil))))) (w := w)
    (fun i st (ac : List (Nat × Nat)) e h => ∃ z3 : Option Va, e = [some (.str w), some (.loc 0), some (.loc 1), z3] ∧ h = [.lst (st.map vN), .lst (ac.map vP)] ∧ st.length ≤ i ∧ ac.length ≤ i) (fun ac o i => ac ++ [(o, i)])
    (by
      rintro i st ac e h hi ⟨z3, rfl, rfl, gl, ga⟩
      have il := (List.getElem?_eq_some_iff.mp hi).1
      have sr : srcR 0 w.length i [.lst (st.map vN), .lst (ac.map vP)] = some (some (.int (i : Nat))) := by simp [il]
      have ix : ∀ h, kIx (.str w) (.int (i : Nat)) h = .ok (.str [40]) h := fun h => ix_str hi (by omega)
      have ap : kApp (.loc 0) [.int (i : Nat)] [.lst (st.map vN), .lst (ac.map vP)] = .ok .non [.lst ((st ++ [i]).map vN), .lst (ac.map vP)] := by
        have e : ([Ob.lst (st.map vN), .lst (ac.map vP)] : Hs)[0]? = some (.lst (st.map vN)) := rfl
        simp only [kApp, e]
        rw [if_pos (by simp; omega)]
        simp [vN]
      refine ⟨_, _, _, sr, ?_, some (.int (i : Nat)), rfl, rfl, by simp; omega, by omega⟩
      simp [stp, tyA, ix, ap])
    (by
      rintro i st o ac e h hi ⟨z3, rfl, rfl, gl, ga⟩
      have il := (List.getElem?_eq_some_iff.mp hi).1
      have sr : srcR 0 w.length i [.lst ((st ++ [o]).map vN), .lst (ac.map vP)] = some (some (.int (i : Nat))) := by simp [il]
      have ix : ∀ h, kIx (.str w) (.int (i : Nat)) h = .ok (.str [41]) h := fun h => ix_str hi (by omega)
      have pp : kPop (.loc 0) [] [.lst ((st ++ [o]).map vN), .lst (ac.map vP)] = .ok (.int (o : Nat)) [.lst (st.map vN), .lst (ac.map vP)] := by
        have e : ([Ob.lst ((st ++ [o]).map vN), .lst (ac.map vP)] : Hs)[0]? = some (.lst ((st ++ [o]).map vN)) := rfl
        simp only [kPop, e]
        simp [vN]
      simp only [List.map_append, List.map_cons, List.map_nil] at pp
      have ap : kApp (.loc 1) [.tup [.int (o : Nat), .int (i : Nat)]] [.lst (st.map vN), .lst (ac.map vP)] = .ok .non [.lst (st.map vN), .lst ((ac ++ [(o, i)]).map vP)] := by
        have e : ([Ob.lst (st.map vN), .lst (ac.map vP)] : Hs)[1]? = some (.lst (ac.map vP)) := rfl
        simp only [kApp, e]
        rw [if_pos (by simp; omega)]
        simp [vP]
      refine ⟨_, _, _, sr, ?_, some (.int (i : Nat)), rfl, rfl, by simp at gl; omega, by simp; omega⟩
      simp [stp, tyA, ix, pp, ap])
    f 0 [] [] [] [some (.str w), some (.loc 0), some (.loc 1), none] [.lst [], .lst []] 0 (by simp [hw]) ⟨none, rfl, rfl, by simp, by simp⟩
  rw [Nat.add_zero, Nat.zero_add] at g1
  rw [wl] at hL g1
  rw [g1] at hL
  subst g2 g3
  rw [Dw.fold_Cl] at hL g4
  have en : ∀ b e h, loop (srcR 0 (Dw.sz f)) b 0 (Dw.sz f) e h = .nx e h := fun b e h => by simp [loop]
  rw [en] at hL
  subst hL
  have pr : (lsA (.loc 1) [.lst (([] : List Nat).map vN), .lst ((Dw.Cl 0 f).map vP)]).bind (mapO pairA) = some ((Dw.Cl 0 f).map zP) := by
    simp only [lsA]
    exact mapO_some (f := pairA) (g := vP) (k := zP) (fun x => rfl) _
  have gl := g4.2
  simp [kSrtP]
  simp at pr
  rw [pr]
  simp only [srt_Cl]
  rw [new_ok (by rw [List.length_map, List.length_map, ← (Dw.Cl_perm f 0).length_eq]; omega)]
  refine ⟨_, _, rfl, ?_⟩
  simp [pairV, zP, vP, Function.comp_def]
end Mg


set_option Elab.async false
set_option linter.all false
set_option maxRecDepth 100000
set_option maxHeartbeats 4000000
set_option autoImplicit false
namespace Fw
open PySem PySem.Spec L2
open PyProof.Rows hiding St
/-- a display's loop with a test -/
theorem lcl_fil {s : Src} {g : Tg} {t : Sm Bool} {el : Sx} {n : Nat} {e : En} (out : Nat → List Va) (on : out n = []) (I : Nat → Hs → Prop)
    (st : ∀ i h, i < n → I i h → ∃ x e' h1 h2 b, s i h = some (some x) ∧ g x e h = .ok e' h1 ∧ t e' h1 = .ok b h2 ∧ (b = false → out i = out (i + 1) ∧ I (i + 1) h2) ∧ (b = true → ∃ y h3, el e' h2 = .ok y h3 ∧ out i = y :: out (i + 1) ∧ I (i + 1) h3))
    (en : ∀ h, I n h → s n h = some none) {h : Hs} (h0 : I 0 h) : ∃ h', lcl s g t el n 0 e h = .ok (out 0) h' ∧ I n h' := by
  have go : ∀ k i h, i + k = n → I i h → ∃ h', lcl s g t el k i e h = .ok (out i) h' ∧ I n h' := by
    intro k
    induction k with
    | zero =>
      intro i h q hI
      have : i = n := by omega
      subst this
      exact ⟨h, by simp only [lcl, en h hI, on], hI⟩
    | succ k ih =>
      intro i h q hI
      obtain ⟨x, e', h1, h2, b, a1, a2, a3, a4, a5⟩ := st i h (by omega) hI
      cases b with
      | false =>
        obtain ⟨c1, c2⟩ := a4 rfl
        obtain ⟨h', b1, b2⟩ := ih (i + 1) h2 (by omega) c2
        exact ⟨h', by simp only [lcl, a1, a2, a3, c1]; exact b1, b2⟩
      | true =>
        obtain ⟨y, h3, c1, c2, c3⟩ := a5 rfl
        obtain ⟨h', b1, b2⟩ := ih (i + 1) h3 (by omega) c3
        exact ⟨h', by simp only [lcl, a1, a2, a3, c1, b1, c2], b2⟩
  exact go n 0 h (by omega) h0
end Fw
namespace Dw
def aP : Nat → List Nat → List (Nat × Nat)
  | _, [] => []
  | p, m :: ms => if p < m then (p, m) :: aP (p + 1) ms else aP (p + 1) ms
theorem aP_app : ∀ xs ys p, aP p (xs ++ ys) = aP p xs ++ aP (p + xs.length) ys
  | [], ys, p => by simp [aP]
  | x :: xs, ys, p => by
    have e : p + 1 + xs.length = p + (xs.length + 1) := by omega
    simp only [List.cons_append, aP, aP_app xs ys, List.length_cons, e]
    split <;> simp
theorem aP_M : ∀ f p, aP p (M p f) = Pr p f
  | .nil, p => rfl
  | .node a b, p => by
    have e : p + 1 + sz a + 1 = p + sz a + 2 := by omega
    simp only [M, aP, aP_app, M_len, Pr]
    rw [if_pos (by omega), if_neg (by omega), e, aP_M a, aP_M b]
theorem aP_drop (ms : List Nat) (i : Nat) (m : Nat) (h : ms[i]? = some m) : aP i (ms.drop i) = if i < m then (i, m) :: aP (i + 1) (ms.drop (i + 1)) else aP (i + 1) (ms.drop (i + 1)) := by
  obtain ⟨hl, e⟩ := List.getElem?_eq_some_iff.mp h
  rw [List.drop_eq_getElem_cons hl, e, aP]
end Dw
namespace Pg
open PySem PySem.Spec L2 Fw
open PyProof.Rows hiding St
theorem arches_ok {f : Dw.Fo} {h : Hs} (l : Dw.sz f ≤ 24) : G_arches [.str (Dw.word f)] h = .ok (.tup ((Dw.Pr 0 f).map vP)) h := by
  suffices hh : ∃ h', R_arches [.str (Dw.word f)] [] = .ok (.tup ((Dw.Pr 0 f).map vP)) h' by
    obtain ⟨h', hh⟩ := hh
    refine pure_of rfl hh ?_
    simp only [lf]
    exact lfL_map (fun _ => rfl) _
  have nr : ∀ h, G_need_row [.str (Dw.word f)] h = .ok .non h := fun h => need_row_ok (Dw.D_word f) (by rw [Dw.word_len]; exact l)
  have mo : G_mates_of [.str (Dw.word f)] [] = .ok (.loc 0) [.lst ((Dw.M 0 f).map vN)] := mates_ok l
  simp [runB_ap, b_arches, nr, sEnuT, enT, enV, mo]
  have ml := Dw.M_len f 0
  have : ∃ h', lcl (srcEL 0) (gTp 2 (gsCons (gNm 1) (gsCons (gNm 2) gsNil))) (sBl (s2 kLt (sVar 1) (sVar 2))) (sTup (sCons (sVar 1) (sCons (sVar 2) sNil))) (Dw.M 0 f).length 0 (wipeE [some (.str (Dw.word f)), none, none] [1, 2]) [.lst ((Dw.M 0 f).map vN)] = .ok ((Dw.aP 0 ((Dw.M 0 f).drop 0)).map vP) h' ∧ h' = [.lst ((Dw.M 0 f).map vN)] := by
    refine lcl_fil (fun i => (Dw.aP i ((Dw.M 0 f).drop i)).map vP) (by simp [Dw.aP]) (fun i h => h = [.lst ((Dw.M 0 f).map vN)]) ?_ ?_ rfl
    · rintro i h hi rfl
      obtain ⟨m, e1, _⟩ := drop_cons hi
      refine ⟨.tup [.int (i : Nat), .int (m : Nat)], [some (.str (Dw.word f)), some (.int (i : Nat)), some (.int (m : Nat))], [.lst ((Dw.M 0 f).map vN)], [.lst ((Dw.M 0 f).map vN)], decide (i < m), by simp [srcEL, e1, vN], by simp [wipeE], by simp, fun c => ?_, fun c => ?_⟩
      · rw [Dw.aP_drop _ _ _ e1, if_neg (by simpa using c)]
        exact ⟨rfl, rfl⟩
      · refine ⟨.tup [.int (i : Nat), .int (m : Nat)], _, by simp, ?_, rfl⟩
        rw [Dw.aP_drop _ _ _ e1, if_pos (by simpa using c)]
        rfl
    · rintro h rfl
      simp [srcEL]
  obtain ⟨h', e, rfl⟩ := this
  rw [e]
  simp only [lst_, List.nil_append, List.drop_zero, Dw.aP_M]
  have pl : ((Dw.Pr 0 f).map vP).length ≤ 16777216 := by
    have := (Dw.Cl_perm f 0).length_eq
    have : ∀ f p, (Dw.Cl p f).length ≤ Dw.sz f := by
      intro f
      induction f with
      | nil => intro p; simp [Dw.Cl]
      | node a b ia ib =>
        intro p
        have := ia (p + 1)
        have := ib (p + Dw.sz a + 2)
        simp [Dw.Cl, Dw.sz]
        omega
    have := this f 0
    rw [List.length_map]
    omega
  rw [new_ok pl]
  simp [kTpl, lsA]
theorem nr_ok {f : Dw.Fo} {h : Hs} (l : Dw.sz f ≤ 24) : G_need_row [.str (Dw.word f)] h = .ok .non h := need_row_ok (Dw.D_word f) (by rw [Dw.word_len]; exact l)
theorem mate_ok {f : Dw.Fo} {h : Hs} {i m : Nat} (l : Dw.sz f ≤ 24) (e : (Dw.M 0 f)[i]? = some m) : G_mate [.str (Dw.word f), .int (i : Nat)] h = .ok (.int (m : Nat)) h := by
  suffices hh : ∃ h', R_mate [.str (Dw.word f), .int (i : Nat)] [] = .ok (.int (m : Nat)) h' by
    obtain ⟨h', hh⟩ := hh
    exact pure_of rfl hh rfl
  have il := (List.getElem?_eq_some_iff.mp e).1
  rw [Dw.M_len] at il
  have wl := Dw.word_len f
  have nf : ∀ h, G_need_foot [.str (Dw.word f), .int (i : Nat)] h = .ok .non h := fun h => by
    refine pure_of rfl (h' := []) ?_ rfl
    simp [runB_ap, b_need_foot, wl, show Dw.sz f ≤ 16777216 by omega, is_within_ok (i := (i : Int)) (a := 0) (b := (Dw.sz f : Int) - 1) (by omega) (by omega)]
  have mo : G_mates_of [.str (Dw.word f)] [] = .ok (.loc 0) [.lst ((Dw.M 0 f).map vN)] := mates_ok l
  have ix : kIx (.loc 0) (.int (i : Nat)) [.lst ((Dw.M 0 f).map vN)] = .ok (.int (m : Nat)) [.lst ((Dw.M 0 f).map vN)] := ix_loc (xs := (Dw.M 0 f).map vN) rfl (by rw [List.getElem?_map, e]; rfl)
  simp [runB_ap, b_mate, nr_ok l, nf, mo, ix]
theorem mirrored_ok {f : Dw.Fo} {h : Hs} (l : Dw.sz f ≤ 24) : G_mirrored [.str (Dw.word f)] h = .ok (.str (Dw.word (Dw.mir f))) h := by
  suffices hh : ∃ h', R_mirrored [.str (Dw.word f)] [] = .ok (.str (Dw.word (Dw.mir f))) h' by
    obtain ⟨h', hh⟩ := hh
    exact pure_of rfl hh rfl
  have wl := Dw.word_len f
  have nr : ∀ h, G_need_row [.str (Dw.word f)] h = .ok .non h := fun h => nr_ok l
  rw [Dw.word_mir]
  generalize hw : Dw.word f = w at *
  simp [runB_ap, b_mirrored, nr, show w.length ≤ 16777216 by omega]
  have : ∃ h', lcl (srcV (w.reverse.map fun c => Va.str [c])) (gNm 1) tru (sIte (sBl (s2 kEq (sVar 1) (sK (.str [40])))) (sK (.str [41])) (sK (.str [40]))) w.length 0 (wipeE [some (.str w), none] [1]) [] = .ok ((w.reverse.map fun c => if c = 40 then 41 else 40).map fun c => Va.str [c]) h' ∧ h' = [] := by
    refine lcl_inv _ (by simp) (fun i h => h = []) ?_ ?_ rfl
    · rintro i h hi rfl
      obtain ⟨c, e1, _⟩ := drop_cons (xs := w.reverse) (i := i) (by simpa using hi)
      refine ⟨.str [c], _, _, _, [], .str [if c = 40 then 41 else 40], by simp only [srcV, List.getElem?_map, e1, Option.map_some], rfl, rfl, ?_, by simp only [List.getElem?_map, e1, Option.map_some], rfl⟩
      by_cases c40 : c = 40
      · simp [wipeE, c40]
      · simp [wipeE, c40]
    · rintro h rfl
      simp
  obtain ⟨h', e, rfl⟩ := this
  simp only [← List.map_reverse] at e ⊢
  rw [e]
  simp only [lst_, List.nil_append]
  rw [new_ok (by simp; omega)]
  simp only [fwd_ok, List.length_nil, List.nil_append]
  have j := join_one (h := [.lst ((w.reverse.map fun c => if c = 40 then 41 else 40).map fun c => Va.str [c])]) (n := 0) (s := w.reverse.map fun c => if c = 40 then 41 else 40) rfl (by simp; omega)
  rw [j]
  exact ⟨_, rfl⟩
end Pg
namespace Mg
open PySem PySem.Spec L2 Fw Pg
open PyProof.Rows hiding St
theorem law_mirrored_ok {f : Dw.Fo} {h : Hs} (l : Dw.sz f ≤ 24) : G__law_mirrored [.str (Dw.word f)] h = .ok (.str (Dw.word (Dw.mir f))) h := by
  suffices hh : ∃ h', R__law_mirrored [.str (Dw.word f)] [] = .ok (.str (Dw.word (Dw.mir f))) h' by
    obtain ⟨h', hh⟩ := hh
    exact pure_of rfl hh rfl
  have wl := Dw.word_len f
  rw [Dw.word_mir]
  generalize hw : Dw.word f = w at *
  simp [runB_ap, b__law_mirrored, show w.length ≤ 16777216 by omega]
  have : ∃ h', lcl (srcV (w.reverse.map fun c => Va.str [c])) (gNm 1) tru (s2 kIx (sK (.str [40, 41])) (sBlt kInt (sCons (s2 kEq (sVar 1) (sK (.str [40]))) sNil))) w.length 0 (wipeE [some (.str w), none] [1]) [] = .ok ((w.reverse.map fun c => if c = 40 then 41 else 40).map fun c => Va.str [c]) h' ∧ h' = [] := by
    refine lcl_inv _ (by simp) (fun i h => h = []) ?_ ?_ rfl
    · rintro i h hi rfl
      obtain ⟨c, e1, _⟩ := drop_cons (xs := w.reverse) (i := i) (by simpa using hi)
      refine ⟨.str [c], _, _, _, [], .str [if c = 40 then 41 else 40], by simp only [srcV, List.getElem?_map, e1, Option.map_some], rfl, rfl, ?_, by simp only [List.getElem?_map, e1, Option.map_some], rfl⟩
      by_cases c40 : c = 40
      · have k : kIx (.str [40, 41]) (.int 1) [] = .ok (.str [41]) [] := rfl
        simp [wipeE, c40, k]
      · have k : kIx (.str [40, 41]) (.int 0) [] = .ok (.str [40]) [] := rfl
        simp [wipeE, c40, k]
    · rintro h rfl
      simp
  obtain ⟨h', e, rfl⟩ := this
  simp only [← List.map_reverse] at e ⊢
  rw [e]
  simp only [lst_, List.nil_append]
  rw [new_ok (by simp; omega)]
  simp only [fwd_ok, List.length_nil, List.nil_append]
  have j := join_one (h := [.lst ((w.reverse.map fun c => if c = 40 then 41 else 40).map fun c => Va.str [c])]) (n := 0) (s := w.reverse.map fun c => if c = 40 then 41 else 40) rfl (by simp; omega)
  rw [j]
  exact ⟨_, rfl⟩
end Mg
namespace Dw
/-- the greatest height along a word -/
def top : Nat → Nat → List Nat → Nat
  | _, g, [] => g
  | h, g, c :: s => if c = 40 then top (h + 1) (max g (h + 1)) s else top (h - 1) (max g (h - 1)) s
theorem top_word : ∀ f h g r, h ≤ g → top h g (word f ++ r) = top h (max g (h + dep f)) r
  | .nil, h, g, r, q => by simp [word, dep, Nat.max_eq_left q]
  | .node a b, h, g, r, q => by
    have e : word (.node a b) ++ r = 40 :: (word a ++ 41 :: (word b ++ r)) := by simp [word]
    rw [e, top, if_pos rfl, top_word a (h + 1) _ _ (by omega), top, if_neg (by decide), Nat.add_sub_cancel, top_word b h _ r (by omega)]
    congr 1
    simp only [dep]
    omega
theorem top_dep (f : Fo) : top 0 0 (word f) = dep f := by
  have := top_word f 0 0 [] (Nat.le_refl 0)
  simpa [top] using this
end Dw
namespace Pg
open PySem PySem.Spec L2 Fw
open PyProof.Rows hiding St
theorem depth_ok {f : Dw.Fo} {h : Hs} (l : Dw.sz f ≤ 24) : G_depth [.str (Dw.word f)] h = .ok (.int (Dw.dep f : Nat)) h := by
  suffices hh : ∃ h', R_depth [.str (Dw.word f)] [] = .ok (.int (Dw.dep f : Nat)) h' by
    obtain ⟨h', hh⟩ := hh
    exact pure_of rfl hh rfl
  have wl := Dw.word_len f
  have nr : ∀ h, G_need_row [.str (Dw.word f)] h = .ok .non h := fun h => nr_ok l
  have td := Dw.top_dep f
  have dw := Dw.D_word f
  generalize hw : Dw.word f = w at *
  simp [runB_ap, b_depth, nr]
  generalize hL : loop _ _ _ _ _ _ = L
  obtain ⟨e', h', rfl, ht, g, z, rfl, rfl, d, b⟩ := loop_gen hL (fun i e h => ∃ (ht g : Nat) (z : Option Va), e = [some (.str w), some (.int (ht : Nat)), some (.int (g : Nat)), z] ∧ h = [] ∧ Dw.D ht (w.drop i) ∧ Dw.top ht g (w.drop i) = Dw.dep f) ⟨0, 0, none, rfl, rfl, by simpa using dw, by simpa using td⟩ (by
      rintro i e h hi ⟨ht, g, z, rfl, rfl, d, b⟩
      obtain ⟨c, e1, e2⟩ := drop_cons hi
      rw [e2] at d b
      rcases d with ⟨rfl, d⟩ | ⟨rfl, k, rfl, d⟩
      · refine ⟨.str [40], _, _, by simp [e1], ?_, ht + 1, max g (ht + 1), some (.str [40]), rfl, rfl, d, by rw [← b, Dw.top, if_pos rfl]⟩
        simp [stp, kMax]
        split <;> omega
      · refine ⟨.str [41], _, _, by simp [e1], ?_, k, max g k, some (.str [41]), rfl, rfl, d, by rw [← b, Dw.top, if_neg (by decide), Nat.add_sub_cancel]⟩
        simp [stp, kMax]
        omega) (by
      rintro e h ⟨ht, g, z, rfl, rfl, d, b⟩
      simp)
  simp [Dw.top] at b
  simp [b]
end Pg


set_option Elab.async false
set_option linter.all false
set_option maxRecDepth 100000
set_option maxHeartbeats 4000000
set_option autoImplicit false
namespace Fw
open PySem PySem.Spec L2
open PyProof.Rows hiding St
theorem sIx_nat {n d i : Nat} (h : i ≤ n) : HT.sIx n d (some (i : Int)) = i := by
  simp only [HT.sIx]
  split <;> omega
theorem cut_ss {α : Type} (xs : List α) {i j : Nat} (h : i ≤ j) (h2 : j ≤ xs.length) : cutA xs (some (i : Int)) (some (j : Int)) = (xs.drop i).take (j - i) := by
  unfold cutA
  rw [sIx_nat (i := i) (by omega), sIx_nat (i := j) h2]
theorem cut_sn {α : Type} (xs : List α) {i : Nat} (h : i ≤ xs.length) : cutA xs (some (i : Int)) none = xs.drop i := by
  unfold cutA
  rw [sIx_nat h]
  show (xs.drop i).take (xs.length - i) = _
  rw [List.take_of_length_le (by simp)]
end Fw
namespace Pg
open PySem PySem.Spec L2 Fw
open PyProof.Rows hiding St
theorem turned_ok {f : Dw.Fo} {h : Hs} (l : Dw.sz f ≤ 24) : G_turned [.str (Dw.word f)] h = .ok (.str (Dw.word (Dw.tu f))) h := by
  suffices hh : ∃ h', R_turned [.str (Dw.word f)] [] = .ok (.str (Dw.word (Dw.tu f))) h' by
    obtain ⟨h', hh⟩ := hh
    exact pure_of rfl hh rfl
  have wl := Dw.word_len f
  have nr : ∀ h, G_need_row [.str (Dw.word f)] h = .ok .non h := fun h => nr_ok l
  have mo : G_mates_of [.str (Dw.word f)] [] = .ok (.loc 0) [.lst ((Dw.M 0 f).map vN)] := mates_ok l
  cases f with
  | nil => exact ⟨_, by simp [runB_ap, b_turned, nr, Dw.word, Dw.tu]; rfl⟩
  | node a b =>
    have al := Dw.word_len a
    have bl := Dw.word_len b
    have sl : Dw.sz (.node a b) = Dw.sz a + Dw.sz b + 2 := rfl
    have ix : kIx (.loc 0) (.int 0) [.lst ((Dw.M 0 (.node a b)).map vN)] = .ok (.int (Dw.sz a + 1 : Nat)) [.lst ((Dw.M 0 (.node a b)).map vN)] := ix_loc (xs := (Dw.M 0 (.node a b)).map vN) (i := 0) rfl (by simp [Dw.M, vN])
    have c1 : ∀ h, kSl (.str (Dw.word (.node a b))) (some 1) (some ((Dw.sz a + 1 : Nat) : Int)) h = .ok (.str (Dw.word a)) h := fun h => by
      have e : cutA (Dw.word (.node a b)) (some ((1 : Nat) : Int)) (some ((Dw.sz a + 1 : Nat) : Int)) = Dw.word a := by
        rw [cut_ss _ (by omega) (by omega)]
        simp [Dw.word, ← al]
      show (if (Dw.word (.node a b)).length ≤ 16777216 then Rs.ok (Va.str (cutA (Dw.word (.node a b)) (some ((1 : Nat) : Int)) _)) h else .bad) = _
      rw [if_pos (by omega), e]
    have c2 : ∀ h, kSl (.str (Dw.word (.node a b))) (some (((Dw.sz a + 1 : Nat) : Int) + 1)) none h = .ok (.str (Dw.word b)) h := fun h => by
      have e : cutA (Dw.word (.node a b)) (some ((Dw.sz a + 2 : Nat) : Int)) none = Dw.word b := by
        rw [cut_sn _ (by omega)]
        simp [Dw.word, ← al]
      show (if (Dw.word (.node a b)).length ≤ 16777216 then Rs.ok (Va.str (cutA (Dw.word (.node a b)) (some ((Dw.sz a + 2 : Nat) : Int)) none)) h else .bad) = _
      rw [if_pos (by omega), e]
    have ne : ¬ Dw.word (.node a b) = [] := by simp [Dw.word]
    rw [Dw.word_tu]
    generalize Dw.word (.node a b) = w at *
    generalize hk : ((Dw.sz a + 1 : Nat) : Int) = k at *
    refine ⟨[.lst ((Dw.M 0 (.node a b)).map vN)], ?_⟩
    simp [runB_ap, b_turned, nr, mo, ne, ix, c1, c2, show (Dw.word a).length + 1 ≤ 16777216 by omega]
    rw [if_pos (by omega)]
    simp [show (Dw.word a).length + ((Dw.word b).length + 1) + 1 ≤ 16777216 by omega]
end Pg
namespace Dw
def tops : Fo → Nat
  | .nil => 0
  | .node _ b => tops b + 1
def bl : Fo → List (List Nat)
  | .nil => []
  | .node a b => word (.node a .nil) :: bl b
theorem tops_le : ∀ f, 2 * tops f ≤ sz f
  | .nil => by simp [tops]
  | .node a b => by have := tops_le b; simp [tops, sz]; omega
theorem bl_len : ∀ f, (bl f).length = tops f
  | .nil => rfl
  | .node a b => by simp [bl, tops, bl_len b]
end Dw
namespace Pg
open PySem PySem.Spec L2 Fw
open PyProof.Rows hiding St
theorem blocks_ok {f : Dw.Fo} {h : Hs} (l : Dw.sz f ≤ 24) : G_blocks [.str (Dw.word f)] h = .ok (.tup ((Dw.bl f).map Va.str)) h := by
  suffices hh : ∃ h', R_blocks [.str (Dw.word f)] [] = .ok (.tup ((Dw.bl f).map Va.str)) h' by
    obtain ⟨h', hh⟩ := hh
    refine pure_of rfl hh ?_
    simp only [lf]
    exact lfL_map (fun _ => rfl) _
  have wl := Dw.word_len f
  have nr : ∀ h, G_need_row [.str (Dw.word f)] h = .ok .non h := fun h => nr_ok l
  have mo : G_mates_of [.str (Dw.word f)] [] = .ok (.loc 0) [.lst ((Dw.M 0 f).map vN)] := mates_ok l
  have tl := Dw.tops_le f
  have n1 : ∀ a : Ob, newL [] [a] = .ok (.loc 1) [a, .lst []] := fun a => rfl
  simp [runB_ap, b_blocks, nr, mo, n1]
  generalize hL : whl _ _ _ _ _ = L
  have ml := Dw.M_len f 0
  generalize hw : Dw.word f = w at *
  generalize hm : Dw.M 0 f = ms at *
  obtain ⟨e', h', rfl, z3, z4, rfl, rfl⟩ := whl_gen hL (fun k e h => ∃ (g : Dw.Fo) (p : Nat) (acc : List (List Nat)) (z : Option Va), e = [some (.str w), some (.loc 0), some (.loc 1), some (.int (p : Nat)), z] ∧ h = [.lst (ms.map vN), .lst (acc.map Va.str)] ∧ Dw.tops g = k ∧ w.drop p = Dw.word g ∧ ms.drop p = Dw.M p g ∧ p + Dw.sz g = Dw.sz f ∧ acc ++ Dw.bl g = Dw.bl f ∧ acc.length ≤ p)
    (fun e h => ∃ z3 z4 : Option Va, e = [some (.str w), some (.loc 0), some (.loc 1), z3, z4] ∧ h = [.lst (ms.map vN), .lst ((Dw.bl f).map Va.str)]) (Dw.tops f) (by omega) ⟨f, 0, [], none, rfl, rfl, rfl, by simp [hw], by simp [hm], by omega, by simp, by simp⟩ (by
      rintro k e h ⟨g, p, acc, z, rfl, rfl, a1, a2, a3, a4, a5, a6⟩
      cases g with
      | nil => simp [Dw.tops] at a1
      | node a b =>
        have sl : Dw.sz (.node a b) = Dw.sz a + Dw.sz b + 2 := rfl
        have al := Dw.word_len a
        have pl : p < w.length := by omega
        have mp : ms[p]? = some (p + Dw.sz a + 1) := by
          have : ms[p]? = (ms.drop p)[0]? := by rw [List.getElem?_drop]; rfl
          rw [this, a3]
          rfl
        have ix : kIx (.loc 0) (.int (p : Nat)) [.lst (ms.map vN), .lst (acc.map Va.str)] = .ok (.int ((p + Dw.sz a + 1 : Nat))) [.lst (ms.map vN), .lst (acc.map Va.str)] := ix_loc (xs := ms.map vN) rfl (by rw [List.getElem?_map, mp]; rfl)
        have c1 : ∀ h, kSl (.str w) (some (p : Int)) (some (((p + Dw.sz a + 1 : Nat) : Int) + 1)) h = .ok (.str (Dw.word (.node a .nil))) h := fun h => by
          have e : cutA w (some (p : Int)) (some ((p + Dw.sz a + 2 : Nat) : Int)) = Dw.word (.node a .nil) := by
            rw [cut_ss _ (by omega) (by omega), a2]
            rw [show p + Dw.sz a + 2 - p = (Dw.sz a + 1) + 1 by omega]
            simp only [Dw.word, List.take_succ_cons]
            rw [List.take_append, al, List.take_of_length_le (by omega), show Dw.sz a + 1 - Dw.sz a = 1 by omega]
            rfl
          show (if w.length ≤ 16777216 then Rs.ok (Va.str (cutA w _ (some ((p + Dw.sz a + 2 : Nat) : Int)))) h else .bad) = _
          rw [if_pos (by omega), e]
        have ap : kApp (.loc 1) [.str (Dw.word (.node a .nil))] [.lst (ms.map vN), .lst (acc.map Va.str)] = .ok .non [.lst (ms.map vN), .lst ((acc ++ [Dw.word (.node a .nil)]).map Va.str)] := by
          have e : ([Ob.lst (ms.map vN), .lst (acc.map Va.str)] : Hs)[1]? = some (.lst (acc.map Va.str)) := rfl
          simp only [kApp, e]
          rw [if_pos (by simp; omega)]
          simp
        refine ⟨[.lst (ms.map vN), .lst (acc.map Va.str)], _, _, ?_, ?_, b, p + Dw.sz a + 2, acc ++ [Dw.word (.node a .nil)], some (.int ((p + Dw.sz a + 1 : Nat) + 1)), rfl, rfl, by simpa [Dw.tops] using a1, ?_, ?_, by omega, by rw [← a5]; simp [Dw.bl], by simp; omega⟩
        · simp [pl, show w.length ≤ 16777216 by omega]
        · generalize hk : ((p + Dw.sz a + 1 : Nat) : Int) = k' at *
          generalize hx : Dw.word (.node a .nil) = x at *
          simp [ix, c1, ap, tyA]
          omega
        · rw [show p + Dw.sz a + 2 = p + (Dw.sz a + 2) by omega, ← List.drop_drop, a2]
          simp [Dw.word, ← al]
        · rw [show p + Dw.sz a + 2 = p + (Dw.sz a + 2) by omega, ← List.drop_drop, a3]
          have := Dw.M_len a (p + 1)
          simp [Dw.M, ← this, Nat.add_assoc]) (by
      rintro e h ⟨g, p, acc, z, rfl, rfl, a1, a2, a3, a4, a5, a6⟩
      cases g with
      | node a b => simp [Dw.tops] at a1
      | nil =>
        have : ¬ p < w.length := by simp [Dw.sz] at a4; omega
        refine ⟨[.lst (ms.map vN), .lst (acc.map Va.str)], by simp [show w.length ≤ 16777216 by omega, this], _, _, rfl, ?_⟩
        rw [← a5]
        simp [Dw.bl])
  simp [kTpl, lsA]
end Pg


set_option Elab.async false
set_option linter.all false
set_option maxRecDepth 100000
set_option maxHeartbeats 4000000
set_option autoImplicit false
namespace Dw
def c2 : List Nat → Nat
  | [] => 0
  | c :: r => (if c = 40 ∧ r.head? = some 41 then 1 else 0) + c2 r
theorem c2_word : ∀ f r, c2 (word f ++ r) = sh f + c2 r
  | .nil, r => by simp [word, sh]
  | .node .nil b, r => by
    have := c2_word b r
    simp [word, sh, c2, this]
    omega
  | .node (.node a c) b, r => by
    have e : word (.node (.node a c) b) ++ r = 40 :: (word (.node a c) ++ (41 :: (word b ++ r))) := by simp [word]
    rw [e, c2, if_neg (by simp [word]), c2_word (.node a c), c2, if_neg (by simp), c2_word b]
    simp [sh]
    omega
end Dw
namespace Fw
open PySem PySem.Spec L2 PySem.StrLaws PySem.Builtin.Str
open PyProof.Rows hiding St
def mt2 (w : List Nat) (i : Nat) : Bool := decide (i + 2 ≤ w.length) && ((w.drop i).take 2 == [40, 41])
theorem occ2 (w : List Nat) (limit : Nat) : ∀ (k a : Nat) (st : Array Nat × Nat), (st.2 ≤ a ∨ (st.2 = a + 1 ∧ mt2 w a = false)) → st.1.size + k ≤ limit →
    (forIn (List.range' a k) st (occBody ⟨w.toArray⟩ ⟨#[40, 41]⟩ w.length limit)).run.fst.size = st.1.size + ((List.range' a k).filter (mt2 w)).length
  | 0, a, st, _, _ => by simp
  | k + 1, a, st, hf, hl => by
    rw [List.range'_succ, List.forIn_cons]
    have sb : ∀ i, (subAt ⟨w.toArray⟩ ⟨#[40, 41]⟩ i = true) ↔ ((w.drop i).take 2 == [40, 41]) = true := fun i => by
      rw [subAt_eq]
      rfl
    have l2 : (⟨#[40, 41]⟩ : Str).length = 2 := rfl
    unfold occBody
    by_cases m : mt2 w a = true
    · have m' := m
      simp only [mt2, Bool.and_eq_true, decide_eq_true_eq] at m'
      have fr : st.2 ≤ a := by
        rcases hf with h | ⟨_, h⟩
        · exact h
        · rw [m] at h; cases h
      rw [if_pos ⟨⟨⟨by omega, fr⟩, by rw [l2]; exact m'.1⟩, (sb a).mpr m'.2⟩]
      have nx : mt2 w (a + 1) = false := by
        cases q : mt2 w (a + 1) with
        | false => rfl
        | true =>
          simp only [mt2, Bool.and_eq_true, decide_eq_true_eq, beq_iff_eq] at q
          have e1 := m'.2
          rw [beq_iff_eq] at e1
          have w1 : w[a + 1]? = some 41 := by
            have : w[a + 1]? = ((w.drop a).take 2)[1]? := by rw [List.getElem?_take_of_lt (by decide), List.getElem?_drop]
            rw [this, e1]; rfl
          have w2 : w[a + 1]? = some 40 := by
            have : w[a + 1]? = ((w.drop (a + 1)).take 2)[0]? := by rw [List.getElem?_take_of_lt (by decide), List.getElem?_drop]
            rw [this, q.2]; rfl
          rw [w1] at w2
          cases w2
      have ih := occ2 w limit k (a + 1) (st.1.push a, a + 2) (.inr ⟨rfl, nx⟩) (by simp; omega)
      have ih' : (forIn (List.range' (a + 1) k) (st.1.push a, a + (⟨#[40, 41]⟩ : Str).length) (occBody ⟨w.toArray⟩ ⟨#[40, 41]⟩ w.length limit)).run.fst.size = (st.1.push a).size + ((List.range' (a + 1) k).filter (mt2 w)).length := ih
      unfold occBody at ih'
      rw [List.filter_cons_of_pos m]
      simp only [Array.size_push, List.length_cons] at ih' ⊢
      refine Eq.trans ih' ?_
      omega
    · have nm : ¬ (((st.1.size < limit ∧ st.2 ≤ a) ∧ a + (⟨#[40, 41]⟩ : Str).length ≤ w.length) ∧ subAt ⟨w.toArray⟩ ⟨#[40, 41]⟩ a = true) := fun h => m (by
        simp only [mt2, Bool.and_eq_true, decide_eq_true_eq]
        exact ⟨by have := h.1.2; rw [l2] at this; exact this, (sb a).mp h.2⟩)
      rw [if_neg nm]
      have ih := occ2 w limit k (a + 1) st (.inl (by omega)) (by omega)
      unfold occBody at ih
      rw [List.filter_cons_of_neg m]
      exact ih
theorem mt2_count : ∀ (w : List Nat), ((List.range (w.length + 1)).filter (mt2 w)).length = Dw.c2 w
  | [] => rfl
  | c :: r => by
    have ih := mt2_count r
    have sh : ∀ i, mt2 (c :: r) (i + 1) = mt2 r i := fun i => by simp [mt2]
    have z : mt2 (c :: r) 0 = decide (c = 40 ∧ r.head? = some 41) := by
      cases r with
      | nil => simp [mt2]
      | cons d r =>
        rw [Bool.eq_iff_iff]
        simp [mt2]
    rw [List.length_cons, List.range_succ_eq_map, List.filter_cons, Dw.c2, List.filter_map]
    have e : (mt2 (c :: r) ∘ Nat.succ) = mt2 r := funext sh
    rw [e]
    by_cases q : c = 40 ∧ r.head? = some 41
    · rw [z, if_pos (by simpa using q), if_pos q, List.length_cons, List.length_map, ih]
      omega
    · rw [z, if_neg (by simpa using q), if_neg q, List.length_map, ih]
      omega
theorem count2_ok (w : List Nat) : Txt.count ⟨w.toArray⟩ ⟨#[40, 41]⟩ = (Dw.c2 w : Nat) := by
  unfold Txt.count
  rw [occ_eq, Array.length_toList]
  have wl : (⟨w.toArray⟩ : Str).length = w.length := by simp [Str.length]
  rw [wl]
  have := occ2 w (w.length + 1) (w.length + 1) 0 (#[], 0) (.inl (Nat.le_refl _)) (by simp)
  have e : w.length + 1 - 0 = w.length + 1 := rfl
  rw [e, this, ← mt2_count w, List.range_eq_range']
  simp
end Fw
namespace Pg
open PySem PySem.Spec L2 Fw
open PyProof.Rows hiding St
theorem count_short_ok {f : Dw.Fo} {h : Hs} (l : Dw.sz f ≤ 24) : G_count_short [.str (Dw.word f)] h = .ok (.int (Dw.sh f : Nat)) h := by
  suffices hh : ∃ h', R_count_short [.str (Dw.word f)] [] = .ok (.int (Dw.sh f : Nat)) h' by
    obtain ⟨h', hh⟩ := hh
    exact pure_of rfl hh rfl
  have nr : ∀ h, G_need_row [.str (Dw.word f)] h = .ok .non h := fun h => nr_ok l
  have c : ∀ h, kCnt (.str (Dw.word f)) [.str [40, 41]] h = .ok (.int (Dw.sh f : Nat)) h := fun h => by
    show Rs.ok (Va.int (Txt.count ⟨(Dw.word f).toArray⟩ ⟨#[40, 41]⟩)) h = _
    rw [count2_ok]
    have := Dw.c2_word f []
    simp [Dw.c2] at this
    rw [this]
  simp [runB_ap, b_count_short, nr, tyA, c]
end Pg


set_option Elab.async false
set_option linter.all false
set_option maxRecDepth 100000
set_option maxHeartbeats 4000000
set_option autoImplicit false
namespace Fw
open PySem PySem.Spec L2
open PyProof.Rows hiding St
/-- data that can be laid, shown and compared: depth, a bound of its text -/
structure Bd (k n : Nat) (d : PyData) : Prop where
  dp : d.depth ≤ k
  cl : d.canLay0 = true
  sh : d.showable = true
  ln : d.shown.length ≤ n
theorem Bd.up {k n k' n' : Nat} {d : PyData} (b : Bd k n d) (h : k ≤ k') (h2 : n ≤ n') : Bd k' n' d := ⟨by have := b.dp; omega, b.cl, b.sh, by have := b.ln; omega⟩
theorem Bd.rpr {k n : Nat} {d : PyData} (b : Bd k n d) (h : k ≤ 60) (h2 : n ≤ 16777216) : RprOk d := ⟨by have := b.dp; omega, PyData.hasDict_of_canLay d b.cl, b.sh, by have := b.ln; omega⟩
theorem Bd.shp {k n : Nat} {d : PyData} (b : Bd k n d) (h : k ≤ 64) : SeqAt.shaped d = true := by
  unfold SeqAt.shaped
  rw [b.cl, Bool.true_and]
  exact decide_eq_true (by have := b.dp; omega)
theorem bd_non : Bd 0 4 .none := ⟨by simp [PyData.depth], by simp [PyData.canLay0], by simp [PyData.showable], by simp only [PyData.shown]; decide⟩
theorem bd_bool (b : Bool) : Bd 0 5 (.bool b) := ⟨by simp [PyData.depth], by simp [PyData.canLay0], by simp [PyData.showable], by simp only [PyData.shown]; cases b <;> decide⟩
theorem bd_nat {i : Nat} (hi : i < 10000000000) : Bd 0 12 (.int (i : Nat)) := by
  obtain ⟨a, b, c, d⟩ := rpr_int hi
  refine ⟨by simp [PyData.depth], by simp [PyData.canLay0], c, ?_⟩
  have e : (PyData.int (i : Nat)).shown.length = (Nat.toDigits 10 i).length := by
    show (PySem.Str.ofString (toString ((i : Nat) : Int))).cps.size = _
    rw [← Array.length_toList, PySem.W.KIN.signs_num]
    simp
  have := PySem.W.KXf.digits_le (a := (i : Int)) (by omega) (by omega)
  simp at this
  omega
theorem bd_str {x : List Nat} {m : Nat} (l : x.length ≤ m) (q : ∀ c ∈ x, c < 256) : Bd 0 (10 * m + 2) (strD x) := by
  refine ⟨by simp [strD, PyData.depth], ?_, by simp [strD, PyData.showable], ?_⟩
  · simp only [strD, PyData.canLay0]
    show (x.toArray.all fun c => decide (c < 0x110000)) = true
    rw [List.all_toArray, List.all_eq_true]
    intro c hc
    exact decide_eq_true (Nat.lt_trans (q c hc) (by decide))
  · have := PySem.StrLaws.reprText_len ⟨x.toArray⟩ (by
      intro c hc
      exact Nat.lt_trans (q c (by simpa using hc)) (by decide))
    have e : (⟨x.toArray⟩ : Str).length = x.length := by simp [Str.length]
    show (reprText ⟨x.toArray⟩).length ≤ _
    omega
theorem depthAll_le {k : Nat} : ∀ ds : List PyData, (∀ d ∈ ds, d.depth ≤ k) → PyData.depthAll ds ≤ k
  | [], _ => by simp [PyData.depthAll]
  | d :: ds, h => by
    have := depthAll_le ds fun x m => h x (List.mem_cons_of_mem _ m)
    have := h d List.mem_cons_self
    simp only [PyData.depthAll]
    omega
theorem canLayAll_of : ∀ ds : List PyData, (∀ d ∈ ds, d.canLay0 = true) → PyData.canLayAll0 ds = true
  | [], _ => by simp [PyData.canLayAll0]
  | d :: ds, h => by
    simp only [PyData.canLayAll0]
    rw [h d List.mem_cons_self, canLayAll_of ds fun x m => h x (List.mem_cons_of_mem _ m)]
    rfl
theorem showableAll_of : ∀ ds : List PyData, (∀ d ∈ ds, d.showable = true) → PyData.showableAll ds = true
  | [], _ => by simp [PyData.showableAll]
  | d :: ds, h => by
    simp only [PyData.showableAll]
    rw [h d List.mem_cons_self, showableAll_of ds fun x m => h x (List.mem_cons_of_mem _ m)]
    rfl
theorem shownAll_map : ∀ ds : List PyData, PyData.shownAll ds = ds.map PyData.shown
  | [] => by simp [PyData.shownAll]
  | d :: ds => by simp [PyData.shownAll, shownAll_map ds]
theorem list_len (ts : List Str) : (listText ts).length ≤ piled ts + 2 := by
  unfold listText
  have e1 : (("[" : String) : Str).length = 1 := rfl
  have e2 : (("]" : String) : Str).length = 1 := rfl
  have go : ∀ (ts : List Str) (k : Nat) (acc : Str), (textFrom k acc ts).length ≤ acc.length + piled ts := by
    intro ts
    induction ts with
    | nil => intro k acc; simp [textFrom, piled_nil]
    | cons t ts ih =>
      intro k acc
      have h := ih (k + 1) (acc ++ (if k > 0 then ", " else "" : String) ++ t)
      rw [strLen_append, strLen_append] at h
      have e : ((if k > 0 then ", " else "" : String) : Str).length ≤ 2 := by split <;> decide
      rw [piled_cons]
      show (textFrom (k + 1) (acc ++ (if k > 0 then ", " else "" : String) ++ t) ts).length ≤ _
      omega
  have := go ts 0 "["
  rw [strLen_append]
  omega
theorem bd_tup {k n m : Nat} {ds : List PyData} (h : ∀ d ∈ ds, Bd k n d) (l : ds.length ≤ m) : Bd (k + 1) (m * (n + 2) + 3) (.tuple ds) := by
  refine ⟨?_, ?_, ?_, ?_⟩
  · have := depthAll_le ds fun d q => (h d q).dp
    simp only [PyData.depth]; omega
  · simp only [PyData.canLay0]; exact canLayAll_of ds fun d q => (h d q).cl
  · simp only [PyData.showable]; exact showableAll_of ds fun d q => (h d q).sh
  · show (tupleText (PyData.shownAll ds)).length ≤ _
    have h1 := tuple_len (PyData.shownAll ds)
    rw [shownAll_map] at h1 ⊢
    have h2 := piled_le (B := n) (ds.map PyData.shown) (by
      intro t ht
      obtain ⟨d, hd, rfl⟩ := List.mem_map.mp ht
      exact (h d hd).ln)
    rw [List.length_map] at h2
    have := Nat.mul_le_mul_right (n + 2) l
    omega
theorem bd_lst {k n m : Nat} {ds : List PyData} (h : ∀ d ∈ ds, Bd k n d) (l : ds.length ≤ m) : Bd (k + 1) (m * (n + 2) + 2) (.list ds) := by
  refine ⟨?_, ?_, ?_, ?_⟩
  · have := depthAll_le ds fun d q => (h d q).dp
    simp only [PyData.depth]; omega
  · simp only [PyData.canLay0]; exact canLayAll_of ds fun d q => (h d q).cl
  · simp only [PyData.showable]; exact showableAll_of ds fun d q => (h d q).sh
  · show (listText (PyData.shownAll ds)).length ≤ _
    have h1 := list_len (PyData.shownAll ds)
    rw [shownAll_map] at h1 ⊢
    have h2 := piled_le (B := n) (ds.map PyData.shown) (by
      intro t ht
      obtain ⟨d, hd, rfl⟩ := List.mem_map.mp ht
      exact (h d hd).ln)
    rw [List.length_map] at h2
    have := Nat.mul_le_mul_right (n + 2) l
    omega
theorem eqv_Bd {k n : Nat} {d : PyData} (b : Bd k n d) : PyData.eqv d d = true := PySem.SeqAt.eqv_refl d b.cl
/-- two things that read alike are equal -/
theorem eqD_same {x y : Va} {h : Hs} {d : PyData} {k n : Nat} {neg : Bool} (q1 : rdV h 24 x = some d) (q2 : rdV h 24 y = some d) (b : Bd k n d) (hk : k ≤ 64) : kEqD neg x y h = .ok (.bl (!neg)) h := by
  simp only [kEqD, q1, q2]
  rw [if_pos ⟨b.shp hk, b.shp hk⟩, eqv_Bd b]
  cases neg <;> rfl
theorem rd_tup {h : Hs} {n : Nat} {α : Type} {g : α → Va} {k : α → PyData} {xs : List α} (q : ∀ x ∈ xs, rdV h n (g x) = some (k x)) : rdV h (n + 1) (.tup (xs.map g)) = some (.tuple (xs.map k)) := by
  have : mapO (rdV h n) (xs.map g) = some (xs.map k) := by
    induction xs with
    | nil => rfl
    | cons x xs ih =>
      simp only [List.map_cons, mapO, q x List.mem_cons_self]
      rw [ih fun y m => q y (List.mem_cons_of_mem _ m)]
  simp only [rdV, this, Option.map_some]
theorem rd_lst {h : Hs} {n m : Nat} {α : Type} {g : α → Va} {k : α → PyData} {xs : List α} (e : h[m]? = some (.lst (xs.map g))) (q : ∀ x ∈ xs, rdV h n (g x) = some (k x)) : rdV h (n + 1) (.loc m) = some (.list (xs.map k)) := by
  have : mapO (rdV h n) (xs.map g) = some (xs.map k) := by
    clear e
    induction xs with
    | nil => rfl
    | cons x xs ih =>
      simp only [List.map_cons, mapO, q x List.mem_cons_self]
      rw [ih fun y m => q y (List.mem_cons_of_mem _ m)]
  simp only [rdV, e, this, Option.map_some]
/-! ### dicts -/
theorem dGet_put {xs : List (Va × Va)} {k : Key} {y x : Va} (ey : keyA y = some k) (k' : Key) : dGet (dPut xs k y x) k' = if k = k' then some x else dGet xs k' := by
  have hm : ∀ xs : List (Va × Va), dGet (xs.map fun p => if keyA p.1 = some k then (p.1, x) else p) k' = if k = k' then (if (xs.any fun p => decide (keyA p.1 = some k)) = true then some x else none) else dGet xs k' := by
    intro xs
    induction xs with
    | nil => simp [dGet]
    | cons p xs ih =>
      obtain ⟨a, b⟩ := p
      rw [List.map_cons, List.any_cons]
      by_cases c : keyA a = some k
      · rw [if_pos c]
        by_cases d : k = k'
        · subst d; simp [dGet, c]
        · have : ¬ keyA a = some k' := fun z => d (Option.some.inj (c.symm.trans z))
          rw [dGet, if_neg this, ih, if_neg d, if_neg d, dGet, if_neg this]
      · rw [if_neg c]
        by_cases d : k = k'
        · subst d
          rw [dGet, if_neg c, ih]
          have e : decide (keyA (a, b).1 = some k) = false := decide_eq_false c
          rw [if_pos rfl, if_pos rfl, e, Bool.false_or]
        · rw [dGet, dGet, ih, if_neg d, if_neg d]
  unfold dPut
  split
  · rename_i c
    rw [hm]
    by_cases d : k = k'
    · rw [if_pos d, if_pos d, if_pos c]
    · rw [if_neg d, if_neg d]
  · rename_i c
    have ap : ∀ xs : List (Va × Va), (xs.any fun p => decide (keyA p.1 = some k)) = false → dGet (xs ++ [(y, x)]) k' = if k = k' then some x else dGet xs k' := by
      intro xs
      induction xs with
      | nil =>
        intro _
        simp only [List.nil_append, dGet, ey, Option.some.injEq]
      | cons p xs ih =>
        intro q
        obtain ⟨a, b⟩ := p
        rw [List.any_cons, Bool.or_eq_false_iff] at q
        have na : ¬ keyA a = some k := by simpa using q.1
        rw [List.cons_append, dGet, ih q.2, dGet]
        by_cases d : k = k'
        · subst d; rw [if_neg na, if_pos rfl, if_pos rfl]
        · rw [if_neg d, if_neg d]
    exact ap xs (by simpa using c)
theorem dPut_len {xs : List (Va × Va)} {k : Key} {y x : Va} : (dPut xs k y x).length ≤ xs.length + 1 := by
  unfold dPut
  split <;> simp
theorem ixD_ok {h : Hs} {n : Nat} {kvs : List (Va × Va)} {y x : Va} {k : Key} (q : h[n]? = some (.dct kvs)) (ey : keyA y = some k) (e : dGet kvs k = some x) : kIxD (.loc n) y h = .ok x h := by
  simp only [kIxD, q, ey, Option.bind_some, e]
theorem setD_ok {h : Hs} {n : Nat} {kvs : List (Va × Va)} {y x : Va} {k : Key} (q : h[n]? = some (.dct kvs)) (ey : keyA y = some k) (l : kvs.length < 16777216) : kSetD (.loc n) y x h = some (h.set n (.dct (dPut kvs k y x))) := by
  simp only [kSetD, q, ey, if_pos l]
end Fw

set_option Elab.async false
set_option linter.all false
set_option maxRecDepth 100000
set_option maxHeartbeats 4000000
set_option autoImplicit false
namespace Fw
open PySem PySem.Spec L2
open PyProof.Rows hiding St
@[simp] theorem sV8 (a b c d f g j k : Option Va) (x : Va) (r : En) (h : Hs) : sVar 8 (a :: b :: c :: d :: f :: g :: j :: k :: some x :: r) h = .ok x h := (rfl)
@[simp] theorem sV9 (a b c d f g j k l : Option Va) (x : Va) (r : En) (h : Hs) : sVar 9 (a :: b :: c :: d :: f :: g :: j :: k :: l :: some x :: r) h = .ok x h := (rfl)
@[simp] theorem sV10 (a b c d f g j k l n : Option Va) (x : Va) (r : En) (h : Hs) : sVar 10 (a :: b :: c :: d :: f :: g :: j :: k :: l :: n :: some x :: r) h = .ok x h := (rfl)
@[simp] theorem sV11 (a b c d f g j k l n o : Option Va) (x : Va) (r : En) (h : Hs) : sVar 11 (a :: b :: c :: d :: f :: g :: j :: k :: l :: n :: o :: some x :: r) h = .ok x h := (rfl)
@[simp] theorem sV12 (a b c d f g j k l n o p : Option Va) (x : Va) (r : En) (h : Hs) : sVar 12 (a :: b :: c :: d :: f :: g :: j :: k :: l :: n :: o :: p :: some x :: r) h = .ok x h := (rfl)
@[simp] theorem sV13 (a b c d f g j k l n o p q : Option Va) (x : Va) (r : En) (h : Hs) : sVar 13 (a :: b :: c :: d :: f :: g :: j :: k :: l :: n :: o :: p :: q :: some x :: r) h = .ok x h := (rfl)
@[simp] theorem sV14 (a b c d f g j k l n o p q t : Option Va) (x : Va) (r : En) (h : Hs) : sVar 14 (a :: b :: c :: d :: f :: g :: j :: k :: l :: n :: o :: p :: q :: t :: some x :: r) h = .ok x h := (rfl)
theorem last_at (h : Hs) (o : Ob) : (h ++ [o])[h.length]? = some o := by simp
theorem Kp.new {m : Nat} {a h : Hs} (k : Kp m a h) (o : Ob) : Kp m a (h ++ [o]) := k.trans (.app k.mug [o])
theorem Kp.at {m : Nat} {h h' : Hs} (k : Kp m h h') {i : Nat} {o : Ob} (n : i ≠ m) (e : h[i]? = some o) : h'[i]? = some o := k.old i o n e
theorem Mug.ne {h : Hs} {m : Nat} (q : Mug h m) : h.length ≠ m := by
  obtain ⟨_, _, _, e⟩ := q
  have := (List.getElem?_eq_some_iff.mp e).1
  omega
theorem rg2_ok {f : Sm (List Va)} {e : En} {h h1 : Hs} {a j : Nat} (q : f e h = .ok [.int (a : Nat), .int (j : Nat)] h1) (l : a ≤ 1000000) (l2 : j ≤ 1000000) : sRg2 f e h = .ok (srcR (a : Nat) (j - a), j - a) h1 := by
  rw [sRg2_int, q, fwd_ok]
  simp only []
  rw [if_pos ⟨by omega, by omega, by omega, by omega⟩, show ((j : Int) - a).toNat = j - a by omega]
/-- a list of texts, and their numbers, as a filter tells them -/
theorem lcl_cnt {α : Type} {g : α → Va} {xs : List α} {s : Src} {gt : Tg} {t : Sm Bool} {el : Sx} {e : En} (p : α → Bool) (k : α → Va) {h : Hs}
    (st : ∀ i x, xs[i]? = some x → s i h = some (some (g x)) ∧ ∃ e', gt (g x) e h = .ok e' h ∧ t e' h = .ok (p x) h ∧ (p x = true → el e' h = .ok (k x) h)) (en : s xs.length h = some none) :
    lcl s gt t el xs.length 0 e h = .ok ((xs.filter p).map k) h := by
  have go : ∀ n i, i + n = xs.length → lcl s gt t el n i e h = .ok (((xs.drop i).filter p).map k) h := by
    intro n
    induction n with
    | zero =>
      intro i q
      have : i = xs.length := by omega
      subst this
      simp [lcl, en]
    | succ n ih =>
      intro i q
      have hi : i < xs.length := by omega
      obtain ⟨x, e1, e2⟩ := drop_cons hi
      obtain ⟨a1, e', a2, a3, a4⟩ := st i x e1
      have b := ih (i + 1) (by omega)
      cases c : p x with
      | false =>
        rw [c] at a3
        simp only [lcl, a1, a2, a3]
        rw [b, e2, List.filter_cons, if_neg (by rw [c]; exact Bool.false_ne_true)]
      | true =>
        rw [c] at a3
        simp only [lcl, a1, a2, a3, a4 c, b]
        rw [e2, List.filter_cons, if_pos c]
        rfl
  exact go xs.length 0 (by omega)
end Fw
namespace Mg
open PySem PySem.Spec L2 Fw Pg
open PyProof.Rows hiding St
theorem pick_ok {h : Hs} {m : Nat} (q : Mug h m) (xs : List Nat) (h0 : 0 < xs.length) (h1 : xs.length < 100) (hx : ∀ x ∈ xs, x ≤ 12) : ∃ (n : Nat) (h' : Hs), G__law_of [.loc m, .loc h.length] (h ++ [.lst (xs.map fun i => Va.int (i : Nat))]) = .ok (.int (n : Nat)) h' ∧ n ≤ 12 ∧ n ∈ xs ∧ Kp m h h' := by
  have k1 : Kp m h (h ++ [.lst (xs.map fun i => Va.int (i : Nat))]) := .app q _
  obtain ⟨x, h', e1, e2, e3⟩ := of_ok k1.mug (last_at h _) q.ne (by simpa using h0) (by simp; omega)
  obtain ⟨n, n1, rfl⟩ := List.mem_map.mp e2
  exact ⟨n, h', e1, hx n n1, n1, k1.trans e3⟩
end Mg

set_option Elab.async false
set_option linter.all false
set_option maxRecDepth 100000
set_option maxHeartbeats 4000000
set_option autoImplicit false
namespace Dw
theorem Pr_len : ∀ f p, 2 * (Pr p f).length = sz f
  | .nil, p => rfl
  | .node a b, p => by
    have := Pr_len a (p + 1)
    have := Pr_len b (p + sz a + 2)
    simp [Pr, sz]
    omega
/-- n arches around f -/
def ns : Nat → Fo → Fo
  | 0, f => f
  | n + 1, f => .node (ns n f) .nil
theorem sz_ns : ∀ n f, sz (ns n f) = 2 * n + sz f
  | 0, f => by simp [ns]
  | n + 1, f => by simp [ns, sz, sz_ns n f]; omega
theorem word_ns : ∀ n f, word (ns n f) = List.replicate n 40 ++ word f ++ List.replicate n 41
  | 0, f => by simp [ns]
  | n + 1, f => by
    have e : ∀ (n : Nat) (c : Nat), List.replicate n c ++ [c] = c :: List.replicate n c := fun n c => by
      rw [← List.replicate_succ, List.replicate_succ']
    simp only [ns, word, word_ns n f]
    rw [List.replicate_succ, List.append_assoc, List.append_assoc, e n 41, ← List.replicate_succ]
    simp
theorem mir_ns : ∀ n f, mir (ns n f) = ns n (mir f)
  | 0, f => rfl
  | n + 1, f => by simp [ns, mir, app, mir_ns n f]
theorem M_ns : ∀ n f p j, j < 2 * n + sz f → (M p (ns n f))[j]? = if n ≤ j ∧ j < n + sz f then (M (p + n) f)[j - n]? else some (p + (2 * n + sz f - 1 - j))
  | 0, f, p, j, h => by
    rw [if_pos (by omega)]
    simp [ns]
  | n + 1, f, p, j, h => by
    have sn := sz_ns n f
    have ml := M_len (ns n f) (p + 1)
    simp only [ns, M, sn]
    cases j with
    | zero =>
      rw [if_neg (by omega)]
      simp
      omega
    | succ j =>
      rw [List.getElem?_cons_succ]
      by_cases c : j < 2 * n + sz f
      · rw [List.getElem?_append_left (by omega), M_ns n f (p + 1) j c]
        by_cases d : n ≤ j ∧ j < n + sz f
        · rw [if_pos d, if_pos (by omega), show p + 1 + n = p + (n + 1) by omega, show j - n = j + 1 - (n + 1) by omega]
        · rw [if_neg d, if_neg (by omega)]
          congr 1
          omega
      · have : j = 2 * n + sz f := by omega
        subst this
        rw [List.getElem?_append_right (by omega), if_neg (by omega), ml, sn, Nat.sub_self]
        simp
        omega
theorem M_unit {n j : Nat} (h : j < 2 * n) : (M 0 (ns n .nil))[j]? = some (2 * n - 1 - j) := by
  have e : sz Fo.nil = 0 := rfl
  rw [M_ns n .nil 0 j (by omega), e, if_neg (by omega)]
  simp
/-- the hook that has k tops ahead of it and r behind it -/
def hk (k r : Nat) : Fo := ns k (.node .nil (app (ns r .nil) (.node .nil .nil)))
theorem sz_hk (k r : Nat) : sz (hk k r) = 2 * (k + r + 2) := by
  simp [hk, sz_ns, sz, sz_app]
  omega
theorem word_hk (k r : Nat) : word (hk k r) = List.replicate k 40 ++ [40, 41] ++ List.replicate r 40 ++ List.replicate r 41 ++ [40, 41] ++ List.replicate k 41 := by
  simp [hk, word_ns, word_app, word]
theorem mir_hk (k r : Nat) : mir (hk k r) = hk k r := by
  simp [hk, mir_ns, mir, mir_app, app]
theorem M_hk (k r j : Nat) (h : j < 2 * (k + r + 2)) : (M 0 (hk k r))[j]? = some (if j = k then k + 1 else if j = k + 1 then k else if j = k + 2 * r + 2 then k + 2 * r + 3 else if j = k + 2 * r + 3 then k + 2 * r + 2 else 2 * (k + r + 2) - 1 - j) := by
  have sf : sz (.node .nil (app (ns r .nil) (.node .nil .nil))) = 2 * r + 4 := by simp [sz, sz_app, sz_ns]
  have e0 : sz Fo.nil = 0 := rfl
  unfold hk
  rw [M_ns k _ 0 j (by omega), sf]
  by_cases c : k ≤ j ∧ j < k + (2 * r + 4)
  · rw [if_pos c]
    simp only [M, M_app, sz_ns, e0]
    generalize hi : j - k = i
    have hj : j = k + i := by omega
    subst hj
    have ml := M_len (ns r .nil) (0 + k + 0 + 2)
    rw [sz_ns, e0] at ml
    match i with
    | 0 => simp
    | 1 => simp
    | i + 2 =>
      simp only [List.nil_append, List.getElem?_cons_succ]
      rw [if_neg (by omega), if_neg (by omega)]
      by_cases d : i < 2 * r
      · rw [List.getElem?_append_left (by omega), M_ns r .nil _ i (by omega), e0, if_neg (by omega), if_neg (by omega), if_neg (by omega)]
        congr 1
        omega
      · rw [List.getElem?_append_right (by omega), ml]
        by_cases d2 : i = 2 * r
        · subst d2
          rw [if_pos (by omega)]
          simp
          omega
        · have : i = 2 * r + 1 := by omega
          subst this
          rw [if_neg (by omega), if_pos (by omega)]
          simp [show 2 * r + 1 - 2 * r = 1 by omega]
          omega
  · rw [if_neg c, if_neg (by omega), if_neg (by omega), if_neg (by omega), if_neg (by omega)]
    congr 1
    omega
/-- arches that go past a foot, and those that end ahead of it -/
def thr (k : Nat) (ps : List (Nat × Nat)) : Nat := (ps.filter fun q => decide (q.1 < k ∧ k ≤ q.2)).length
def amg (k : Nat) (ps : List (Nat × Nat)) : Nat := (ps.filter fun q => decide (q.2 < k)).length
theorem thr_app (k : Nat) (a b : List (Nat × Nat)) : thr k (a ++ b) = thr k a + thr k b := by simp [thr]
theorem amg_app (k : Nat) (a b : List (Nat × Nat)) : amg k (a ++ b) = amg k a + amg k b := by simp [amg]
theorem thr_cons (k : Nat) (q : Nat × Nat) (b : List (Nat × Nat)) : thr k (q :: b) = (if q.1 < k ∧ k ≤ q.2 then 1 else 0) + thr k b := by
  unfold thr
  rw [List.filter_cons]
  split
  · rename_i h
    rw [if_pos (by simpa using h), List.length_cons]; omega
  · rename_i h
    rw [if_neg (by simpa using h)]; omega
theorem amg_cons (k : Nat) (q : Nat × Nat) (b : List (Nat × Nat)) : amg k (q :: b) = (if q.2 < k then 1 else 0) + amg k b := by
  unfold amg
  rw [List.filter_cons]
  split
  · rename_i h
    rw [if_pos (by simpa using h), List.length_cons]; omega
  · rename_i h
    rw [if_neg (by simpa using h)]; omega
theorem thr_none {f : Fo} {p k : Nat} (h : k ≤ p) : thr k (Pr p f) = 0 ∧ amg k (Pr p f) = 0 := by
  constructor <;> (first | unfold thr | unfold amg) <;> rw [List.length_eq_zero_iff, List.filter_eq_nil_iff] <;> intro q m <;> have := Pr_in f p q m <;> simp <;> omega
theorem take_counts : ∀ (f : Fo) (p t : Nat), ((word f).take t).count 40 = thr (p + t) (Pr p f) + amg (p + t) (Pr p f) ∧ ((word f).take t).count 41 = amg (p + t) (Pr p f)
  | .nil, p, t => by simp [word, Pr, thr, amg]
  | .node a b, p, 0 => by
    obtain ⟨h1, h2⟩ := thr_none (f := .node a b) (p := p) (k := p + 0) (by omega)
    rw [h1, h2]
    simp
  | .node a b, p, t + 1 => by
    have wa := word_len a
    obtain ⟨a1, a2⟩ := take_counts a (p + 1) t
    rw [show p + 1 + t = p + (t + 1) by omega] at a1 a2
    have e : (word (.node a b)).take (t + 1) = 40 :: ((word a).take t ++ (41 :: word b).take (t - sz a)) := by
      simp only [word, List.take_succ_cons]
      rw [List.take_append, wa]
    rw [e]
    simp only [Pr, thr_cons, amg_cons, thr_app, amg_app]
    rw [List.count_cons_self, List.count_cons_of_ne (by decide), List.count_append, List.count_append, a1, a2]
    by_cases c : t ≤ sz a
    · rw [show t - sz a = 0 by omega]
      obtain ⟨b1, b2⟩ := thr_none (f := b) (p := p + sz a + 2) (k := p + (t + 1)) (by omega)
      rw [b1, b2, if_pos (by omega), if_neg (by omega)]
      simp
      omega
    · obtain ⟨b1, b2⟩ := take_counts b (p + sz a + 2) (t - sz a - 1)
      rw [show p + sz a + 2 + (t - sz a - 1) = p + (t + 1) by omega] at b1 b2
      rw [show t - sz a = (t - sz a - 1) + 1 by omega, List.take_succ_cons, List.count_cons_self, List.count_cons_of_ne (by decide), b1, b2, if_neg (by omega), if_pos (by omega)]
      omega
theorem word_counts (f : Fo) : 2 * (word f).count 40 = sz f ∧ 2 * (word f).count 41 = sz f := by
  induction f with
  | nil => simp [word, sz]
  | node a b ia ib =>
    have e : word (.node a b) = 40 :: (word a ++ 41 :: word b) := rfl
    rw [e]
    simp only [List.count_cons, List.count_append, sz]
    simp
    omega
theorem sw_counts (xs : List Nat) (h : ∀ c ∈ xs, c = 40 ∨ c = 41) : (xs.map fun c => if c = 40 then 41 else 40).count 40 = xs.count 41 ∧ (xs.map fun c => if c = 40 then 41 else 40).count 41 = xs.count 40 := by
  induction xs with
  | nil => simp
  | cons x xs ih =>
    obtain ⟨i1, i2⟩ := ih fun c m => h c (List.mem_cons_of_mem _ m)
    rcases h x List.mem_cons_self with rfl | rfl
    · simp [i1, i2]
    · simp [i1, i2]
theorem word_sign : ∀ f, ∀ c ∈ word f, c = 40 ∨ c = 41
  | .nil, c, m => by simp [word] at m
  | .node a b, c, m => by
    rw [word] at m
    rcases List.mem_cons.mp m with rfl | m
    · exact .inl rfl
    · rcases List.mem_append.mp m with m | m
      · exact word_sign a c m
      · rcases List.mem_cons.mp m with rfl | m
        · exact .inr rfl
        · exact word_sign b c m
theorem take_total (f : Fo) {n : Nat} (h : n ≤ sz f) : ((word f).take n).count 40 + ((word f).take n).count 41 = n := by
  have go : ∀ xs : List Nat, (∀ c ∈ xs, c = 40 ∨ c = 41) → xs.count 40 + xs.count 41 = xs.length := by
    intro xs
    induction xs with
    | nil => intro _; rfl
    | cons x xs ih =>
      intro q
      have := ih fun c m => q c (List.mem_cons_of_mem _ m)
      rcases q x List.mem_cons_self with rfl | rfl
      · simp only [List.count_cons_self, List.length_cons]
        rw [List.count_cons_of_ne (by decide)]
        omega
      · simp only [List.count_cons_self, List.length_cons]
        rw [List.count_cons_of_ne (by decide)]
        omega
  have := go ((word f).take n) fun c m => word_sign f c (List.mem_of_mem_take m)
  rw [this, List.length_take, word_len]
  omega
/-- the strands of a tangle, and of its flip -/
theorem mir_counts (f : Fo) (n : Nat) (h : sz f = 2 * n) : ((word (mir f)).take n).count 40 + ((word f).take n).count 41 = n ∧ ((word (mir f)).take n).count 41 + ((word f).take n).count 40 = n := by
  have wl := word_len f
  obtain ⟨c1, c2⟩ := word_counts f
  have e : (word (mir f)).take n = (((word f).drop n).reverse).map fun c => if c = 40 then 41 else 40 := by
    rw [word_mir, ← List.map_take, List.take_reverse, wl, h, show 2 * n - n = n by omega]
  obtain ⟨s1, s2⟩ := sw_counts ((word f).drop n).reverse (fun c m => word_sign f c (List.mem_of_mem_drop (List.mem_reverse.mp m)))
  rw [e, s1, s2, List.count_reverse, List.count_reverse]
  have t1 : (word f).count 40 = ((word f).take n).count 40 + ((word f).drop n).count 40 := by rw [← List.count_append, List.take_append_drop]
  have t2 : (word f).count 41 = ((word f).take n).count 41 + ((word f).drop n).count 41 := by rw [← List.count_append, List.take_append_drop]
  omega
theorem M_mir : ∀ f p, M p (mir f) = (M p f).reverse.map fun m => 2 * p + sz f - 1 - m
  | .nil, p => rfl
  | .node a b, p => by
    have sa := sz_mir a
    have sb := sz_mir b
    simp only [mir, M_app, M, sa, sb, M_mir a, M_mir b, sz]
    rw [show p + sz a + 2 = p + (sz a + 2) by omega, M_up b p (sz a + 2)]
    rw [show p + sz b + 1 = p + 1 + sz b by omega, M_up a (p + 1) (sz b)]
    simp only [List.reverse_cons, List.reverse_append, List.map_append, List.map_cons, List.map_nil, List.map_reverse, List.map_map, List.append_assoc, List.cons_append, List.nil_append]
    congr 1
    · congr 1
      refine List.map_congr_left fun m hm => ?_
      have := M_in b p m hm
      simp only [Function.comp_apply]
      omega
    · rw [show 2 * p + (sz a + sz b + 2) - 1 - p = p + sz b + sz a + 1 by omega]
      congr 1
      congr 1
      · congr 1
        refine List.map_congr_left fun m hm => ?_
        have := M_in a (p + 1) m hm
        simp only [Function.comp_apply]
        omega
      · congr 1
        omega
end Dw
namespace Pg
open PySem PySem.Spec L2 Fw
open PyProof.Rows hiding St
theorem unit_ok {n : Nat} {h : Hs} (h0 : 0 < n) (hn : n ≤ 12) : G_unit [.int (n : Nat)] h = .ok (.str (Dw.word (Dw.ns n .nil))) h := by
  suffices hh : ∃ h', R_unit [.int (n : Nat)] [] = .ok (.str (Dw.word (Dw.ns n .nil))) h' by
    obtain ⟨h', hh⟩ := hh
    exact pure_of rfl hh rfl
  have nn : ∀ h, G_need_number [.int (n : Nat), .int 1, .int 12] h = .ok .non h := fun h => need_number_ok (by omega) (by omega)
  have m1 : ∀ h, kMulS (.str [40]) (.int (n : Nat)) h = .ok (.str (List.replicate n 40)) h := fun h => mulS_one (by omega)
  have m2 : ∀ h, kMulS (.str [41]) (.int (n : Nat)) h = .ok (.str (List.replicate n 41)) h := fun h => mulS_one (by omega)
  refine ⟨[], ?_⟩
  rw [Dw.word_ns]
  simp [-kMulS_str, runB_ap, b_unit, nn, m1, m2, Dw.word, show n + n ≤ 16777216 by omega]
theorem hook_ok {k r : Nat} {h : Hs} (hn : k + r + 2 ≤ 12) : G_hook [.int (k + r + 2 : Nat), .int (k : Nat)] h = .ok (.str (Dw.word (Dw.hk k r))) h := by
  suffices hh : ∃ h', R_hook [.int (k + r + 2 : Nat), .int (k : Nat)] [] = .ok (.str (Dw.word (Dw.hk k r))) h' by
    obtain ⟨h', hh⟩ := hh
    exact pure_of rfl hh rfl
  generalize hm : k + r + 2 = n at *
  have n1 : ∀ h, G_need_number [.int (n : Nat), .int 1, .int 12] h = .ok .non h := fun h => need_number_ok (by omega) (by omega)
  have n2 : ∀ h, G_need_number [.int (k : Nat), .int 0, .int ((n : Int) - 2)] h = .ok .non h := fun h => need_number_ok (by omega) (by omega)
  have e : (n : Int) - 2 - k = (r : Nat) := by omega
  have m : ∀ c (j : Nat) h, j ≤ 12 → kMulS (.str [c]) (.int (j : Nat)) h = .ok (.str (List.replicate j c)) h := fun c j h hj => mulS_one (by omega)
  have m1 := fun h => m 40 k h (by omega)
  have m2 := fun h => m 41 k h (by omega)
  have m3 := fun h => m 40 r h (by omega)
  have m4 := fun h => m 41 r h (by omega)
  have ad : ∀ x y h, x.length + y.length ≤ 100 → kAdd (.str x) (.str y) h = .ok (.str (x ++ y)) h := fun x y h l => by
    simp [show x.length + y.length ≤ 16777216 by omega]
  have a1 := fun h => ad (List.replicate k 40) [40, 41] h (by simp; omega)
  have a2 := fun h => ad (List.replicate k 40 ++ [40, 41]) (List.replicate r 40) h (by simp; omega)
  have a3 := fun h => ad (List.replicate k 40 ++ [40, 41] ++ List.replicate r 40) (List.replicate r 41) h (by simp; omega)
  have a4 := fun h => ad (List.replicate k 40 ++ [40, 41] ++ List.replicate r 40 ++ List.replicate r 41) [40, 41] h (by simp; omega)
  have a5 := fun h => ad (List.replicate k 40 ++ [40, 41] ++ List.replicate r 40 ++ List.replicate r 41 ++ [40, 41]) (List.replicate k 41) h (by simp; omega)
  refine ⟨[], ?_⟩
  rw [Dw.word_hk]
  simp only [List.append_assoc, List.cons_append, List.nil_append] at a1 a2 a3 a4 a5 ⊢
  simp [-kMulS_str, -kAdd, runB_ap, b_hook, n1, n2, e, m1, m2, m3, m4, a1, a2, a3, a4, a5]
theorem flip_ok {f : Dw.Fo} {h : Hs} (l : Dw.sz f ≤ 24) : G_flip [.str (Dw.word f)] h = .ok (.str (Dw.word (Dw.mir f))) h := by
  suffices hh : ∃ h', R_flip [.str (Dw.word f)] [] = .ok (.str (Dw.word (Dw.mir f))) h' by
    obtain ⟨h', hh⟩ := hh
    exact pure_of rfl hh rfl
  exact ⟨[], by simp [runB_ap, b_flip, nr_ok l, mirrored_ok l]⟩
theorem strands_ok {f : Dw.Fo} {n : Nat} {h : Hs} (e : Dw.sz f = 2 * n) (l : n ≤ 12) : G_strands [.str (Dw.word f)] h = .ok (.int (Dw.thr n (Dw.Pr 0 f) : Nat)) h := by
  suffices hh : ∃ h', R_strands [.str (Dw.word f)] [] = .ok (.int (Dw.thr n (Dw.Pr 0 f) : Nat)) h' by
    obtain ⟨h', hh⟩ := hh
    exact pure_of rfl hh rfl
  have wl := Dw.word_len f
  obtain ⟨c1, c2⟩ := Dw.take_counts f 0 n
  rw [Nat.zero_add] at c1 c2
  have sl : ∀ h, kSl (.str (Dw.word f)) none (some (n : Nat)) h = .ok (.str ((Dw.word f).take n)) h := fun h => by
    show (if (Dw.word f).length ≤ 16777216 then Rs.ok (Va.str (cutA (Dw.word f) none (some ((n : Nat) : Int)))) h else .bad) = _
    rw [if_pos (by omega)]
    unfold cutA
    rw [sIx_nat (i := n) (by omega)]
    show Rs.ok (Va.str (((Dw.word f).drop 0).take (n - 0))) h = _
    simp
  have nr : ∀ h, G_need_row [.str (Dw.word f)] h = .ok .non h := fun h => nr_ok (by omega)
  have fd : ∀ h, kFdv (.int (2 * n : Nat)) (.int 2) h = .ok (.int (n : Nat)) h := fun h => by
    simp only [kFdv]
    rw [if_pos ⟨by omega, by omega⟩]
    congr 2
    omega
  have ln : ∀ h, kLen [.str (Dw.word f)] h = .ok (.int (2 * n : Nat)) h := fun h => by simp [wl, e]; omega
  generalize Dw.word f = w at *
  have k1 : ∀ h, kCnt (.str (w.take n)) [.str [40]] h = .ok (.int ((w.take n).count 40 : Nat)) h := fun h => cnt_ok _ _ _
  have k2 : ∀ h, kCnt (.str (w.take n)) [.str [41]] h = .ok (.int ((w.take n).count 41 : Nat)) h := fun h => cnt_ok _ _ _
  rw [c1] at k1
  rw [c2] at k2
  generalize ((2 * n : Nat) : Int) = n2 at *
  refine ⟨[], ?_⟩
  simp [-kLen, runB_ap, b_strands, nr, ln, fd, sl, tyA, k1, k2]
end Pg

set_option Elab.async false
set_option linter.all false
set_option maxRecDepth 100000
set_option maxHeartbeats 4000000
set_option autoImplicit false
namespace Fw
open PySem PySem.Spec L2
open PyProof.Rows hiding St
def Gr (h h' : Hs) : Prop := ∃ r, h' = h ++ r
theorem Gr.refl (h : Hs) : Gr h h := ⟨[], by simp⟩
theorem Gr.trans {a b c : Hs} (p : Gr a b) (q : Gr b c) : Gr a c := by
  obtain ⟨r, rfl⟩ := p
  obtain ⟨s, rfl⟩ := q
  exact ⟨r ++ s, by simp⟩
theorem Gr.app (h r : Hs) : Gr h (h ++ r) := ⟨r, rfl⟩
theorem Gr.at {h h' : Hs} (q : Gr h h') {n : Nat} {o : Ob} (e : h[n]? = some o) : h'[n]? = some o := by
  obtain ⟨r, rfl⟩ := q
  rw [List.getElem?_append_left (List.getElem?_eq_some_iff.mp e).1]
  exact e
theorem at_last (h : Hs) (o : Ob) : (h ++ [o])[h.length]? = some o := by simp
/-- repr of a display of two -/
theorem rpr_two {h : Hs} {e : En} {fa fb : Sx} {a b : Va} {d d' : PyData} (ha : ∀ h, fa e h = .ok a h) (hb : ∀ h, fb e h = .ok b h) (qa : ∀ h, rdV h 23 a = some d) (qb : ∀ h, rdV h 23 b = some d') {k n : Nat} (bd : Bd k n (.list [d, d'])) (hk : k ≤ 60) (hn : n ≤ 16777216) :
    ∃ h', sBlt kRpr (sCons (sLst (sCons fa (sCons fb sNil))) sNil) e h = .ok (.str (PyData.shown (.list [d, d'])).cps.toList) h' ∧ Gr h h' := by
  refine ⟨h ++ [.lst [a, b]], ?_, .app _ _⟩
  have r := rpr_ok (x := .loc h.length) (h := h ++ [.lst [a, b]]) (d := .list [d, d']) (by simp [rdV, mapO, qa, qb]) (bd.rpr hk hn)
  simp [ha, hb, new_ok (xs := [a, b]) (h := h) (by simp), r]
theorem ne_same {e : En} {h h1 h2 : Hs} {fa fb : Sx} {s : List Nat} (a : fa e h = .ok (.str s) h1) (b : fb e h1 = .ok (.str s) h2) : sBl (s2 kNe fa fb) e h = .ok false h2 := by
  simp [a, b]
theorem if_skip {e : En} {h h' : Hs} {t : Sm Bool} {a : Ss} (q : t e h = .ok false h') : sIf t a skip e h = .nx e h' := by
  rw [sIf_ap, q]
  rfl
theorem seq_nx {a c : Ss} {e e' : En} {h h' : Hs} (q : a e h = .nx e' h') : seq a c e h = c e' h' := by rw [seq_ap, q, thn_nx]
theorem seq_as {a b c : Ss} {e e' : En} {h h' : Hs} (q : seq a b e h = .nx e' h') : seq a (seq b c) e h = c e' h' := by
  rw [seq_ap] at q ⊢
  cases r : a e h with
  | nx e1 h1 =>
    rw [r, thn_nx] at q
    rw [thn_nx]
    exact seq_nx q
  | _ => rw [r] at q; cases q
theorem seq_if {a c : Ss} {t : Sm Bool} {e : En} {h h' : Hs} (q : t e h = .ok false h') : seq (sIf t a skip) c e h = c e h' := seq_nx (if_skip q)
theorem bd_two {k n : Nat} {d d' : PyData} (a : Bd k n d) (b : Bd k n d') : Bd (k + 1) (2 * (n + 2) + 2) (.list [d, d']) := bd_lst (m := 2) (by
  intro x m
  simp at m
  rcases m with rfl | rfl
  · exact a
  · exact b) (by simp)
end Fw
namespace Pg
open PySem PySem.Spec L2 Fw
open PyProof.Rows hiding St
theorem cut_ns {α : Type} (xs : List α) {j : Nat} (h : j ≤ xs.length) : cutA xs none (some (j : Int)) = xs.take j := by
  unfold cutA
  rw [sIx_nat h]
  show (xs.drop 0).take (j - 0) = _
  simp
/-- the sum of a list of numbers -/
theorem sum_nat {h : Hs} {n : Nat} {xs : List Nat} (q : h[n]? = some (.lst (xs.map vN))) : kSum [.loc n] h = .ok (.int (xs.sum : Nat)) h := by
  have e : (lsA (.loc n) h).bind (mapO asI) = some (xs.map fun i : Nat => (i : Int)) := by
    simp only [lsA, q, Option.bind_some]
    exact mapO_some (f := asI) (g := vN) (k := fun i : Nat => (i : Int)) (fun x => rfl) xs
  have s : ∀ xs : List Nat, (xs.map fun i : Nat => (i : Int)).sum = (xs.sum : Nat) := by
    intro xs
    induction xs with
    | nil => rfl
    | cons x xs ih => simp [ih]
  simp only [kSum, on1, e, s]
end Pg

set_option Elab.async false
set_option linter.all false
set_option maxRecDepth 100000
set_option maxHeartbeats 4000000
set_option autoImplicit false
namespace Fw
open PySem PySem.Spec L2
open PyProof.Rows hiding St
theorem whl_any {t : Sm Bool} {b : Ss} {f : Nat} {e : En} {h : Hs} {L : Rt} (hL : whl t b f e h = L) (I : Nat → En → Hs → Prop) (J : En → Hs → Prop) (n : Nat) (hn : n < f) (h0 : I n e h)
    (st : ∀ n e h, I n e h → (∃ h1, t e h = .ok false h1 ∧ J e h1) ∨ (∃ m h1 e' h', n = m + 1 ∧ t e h = .ok true h1 ∧ b e h1 = .nx e' h' ∧ I m e' h')) : ∃ e' h', L = .nx e' h' ∧ J e' h' := by
  subst hL
  induction n generalizing f e h with
  | zero =>
    cases f with
    | zero => omega
    | succ f =>
      rcases st 0 e h h0 with ⟨h1, a, b⟩ | ⟨m, h1, e', h', e0, _⟩
      · exact ⟨e, h1, by simp only [whl, a], b⟩
      · omega
  | succ n ih =>
    cases f with
    | zero => omega
    | succ f =>
      rcases st (n + 1) e h h0 with ⟨h1, a, b⟩ | ⟨m, h1, e1, h2, e0, a1, a2, a3⟩
      · exact ⟨e, h1, by simp only [whl, a], b⟩
      · obtain rfl : m = n := by omega
        obtain ⟨e', h', b1, b2⟩ := ih (f := f) (show m < f by omega) a3
        exact ⟨e', h', by simp only [whl, a1, a2, aft]; exact b1, b2⟩
theorem md_ok {a m : Nat} {h : Hs} (m0 : 0 < m) : kMod (.int (a : Nat)) (.int (m : Nat)) h = .ok (.int (a % m : Nat)) h := by
  simp only [kMod]
  rw [if_pos (by omega)]
  rfl
theorem mu_ok {a b : Nat} {h : Hs} (l : a < 2 ^ 60) : kMul (.int (a : Nat)) (.int (b : Nat)) h = .ok (.int (a * b : Nat)) h := by
  simp only [kMul]
  rw [if_pos (.inl ⟨by omega, by omega⟩), Int.natCast_mul]
theorem fd_ok {a m : Nat} {h : Hs} (m0 : 0 < m) (m1 : m < 1073741824) : kFdv (.int (a : Nat)) (.int (m : Nat)) h = .ok (.int (a / m : Nat)) h := by
  simp only [kFdv]
  rw [if_pos ⟨by omega, by omega⟩]
  rfl
theorem ad_ok {a b : Nat} {h : Hs} : kAdd (.int (a : Nat)) (.int (b : Nat)) h = .ok (.int (a + b : Nat)) h := rfl
theorem sb_ok {a b : Nat} {h : Hs} (l : b ≤ a) : kSub (.int (a : Nat)) (.int (b : Nat)) h = .ok (.int (a - b : Nat)) h := by
  show Rs.ok (Va.int ((a : Int) - b)) h = _
  rw [Int.ofNat_sub l]
theorem eqn_ok {a b : Nat} {h : Hs} : kEq (.int (a : Nat)) (.int (b : Nat)) h = .ok (.bl (decide (a = b))) h := by
  show Rs.ok (Va.bl (decide ((a : Int) = b))) h = _
  congr 3
  rw [eq_iff_iff]
  omega
theorem nen_ok {a b : Nat} {h : Hs} : kNe (.int (a : Nat)) (.int (b : Nat)) h = .ok (.bl (!decide (a = b))) h := by
  show Rs.ok (Va.bl (!decide ((a : Int) = b))) h = _
  congr 4
  rw [eq_iff_iff]
  omega
theorem gt_ok {a b : Nat} {h : Hs} : kGt (.int (a : Nat)) (.int (b : Nat)) h = .ok (.bl (decide (b < a))) h := by simp
theorem le_ok {a b : Nat} {h : Hs} : kLe (.int (a : Nat)) (.int (b : Nat)) h = .ok (.bl (decide (a ≤ b))) h := by simp [kLe]
theorem lt_ok {a b : Nat} {h : Hs} : kLt (.int (a : Nat)) (.int (b : Nat)) h = .ok (.bl (decide (a < b))) h := by simp
theorem stp_go {g : Tg} {b : Ss} {x : Va} {e e1 : En} {h h1 : Hs} (q : g x e h = .ok e1 h1) : stp g b x e h = b e1 h1 := by
  unfold stp
  rw [q]
theorem ix_tupN {xs : List Va} {i : Nat} {x : Va} {h : Hs} (e : xs[i]? = some x) : kIx (.tup xs) (.int (i : Nat)) h = .ok x h := by
  have := Fw.atI_nat e
  simp [kIx, gIx, this]
end Fw

set_option Elab.async false
set_option linter.all false
set_option maxRecDepth 100000
set_option maxHeartbeats 4000000
set_option autoImplicit false
namespace Fw
open PySem PySem.Spec L2
open PyProof.Rows hiding St
theorem litN (n : Nat) : Va.int (no_index (@OfNat.ofNat Int n instOfNat)) = Va.int ((@OfNat.ofNat Nat n (instOfNatNat n) : Nat) : Int) := rfl
theorem ge_ok {a b : Nat} {h : Hs} : kGe (.int (a : Nat)) (.int (b : Nat)) h = .ok (.bl (decide (b ≤ a))) h := by simp [kGe]
theorem mx_ok {a b : Nat} {h : Hs} : kMax [.int (a : Nat), .int (b : Nat)] h = .ok (.int (max a b : Nat)) h := by
  simp only [kMax, okI]
  congr 2
  split <;> omega
theorem mn_ok {a b : Nat} {h : Hs} : kMin [.int (a : Nat), .int (b : Nat)] h = .ok (.int (min a b : Nat)) h := by
  simp only [kMin, okI]
  congr 2
  split <;> omega
theorem it_ok {i : Int} {h : Hs} : kInt [.int i] h = .ok (.int i) h := (rfl)
theorem ib_ok {b : Bool} {h : Hs} : kInt [.bl b] h = .ok (.int (b.toNat : Nat)) h := by cases b <;> rfl
theorem ia_ok {a b : Nat} {h : Hs} : kIad (.int (a : Nat)) (.int (b : Nat)) h = .ok (.int (a + b : Nat)) h := (rfl)
theorem aw_ok {a b : Nat} {h : Hs} : kAddW (.int (a : Nat)) (.int (b : Nat)) h = .ok (.int (a + b : Nat)) h := (rfl)
theorem aws_ok {a b : List Nat} {h : Hs} (l : a.length + b.length ≤ 16777216) : kAddW (.str a) (.str b) h = .ok (.str (a ++ b)) h := by
  show (if a.length + b.length ≤ 16777216 then _ else _) = _
  rw [if_pos l]
theorem as_ok {a b : List Nat} {h : Hs} (l : a.length + b.length ≤ 16777216) : kAdd (.str a) (.str b) h = .ok (.str (a ++ b)) h := by
  show (if a.length + b.length ≤ 16777216 then _ else _) = _
  rw [if_pos l]
theorem ln_str {x : List Nat} {h : Hs} (l : x.length ≤ 16777216) : kLen [.str x] h = .ok (.int (x.length : Nat)) h := if_pos l
theorem ln_tup {xs : List Va} {h : Hs} : kLen [.tup xs] h = .ok (.int (xs.length : Nat)) h := (rfl)
theorem ln_ros {xs : List Va} {h : Hs} : kLen [.ros xs] h = .ok (.int (xs.length : Nat)) h := (rfl)
theorem eqs_ok {a b : List Nat} {h : Hs} : kEq (.str a) (.str b) h = .ok (.bl (decide (a = b))) h := (rfl)
theorem nes_ok {a b : List Nat} {h : Hs} : kNe (.str a) (.str b) h = .ok (.bl (!decide (a = b))) h := (rfl)
theorem asB_bl (b : Bool) : asB (.bl b) = some b := (rfl)
theorem trA_bl (b : Bool) (h : Hs) : trA (.bl b) h = some b := (rfl)
theorem gNm_ap (i : Nat) (x : Va) (e : En) (h : Hs) : gNm i x e h = .ok (e.set i (some x)) h := (rfl)
theorem gTp2 (i j : Nat) (x y : Va) (e : En) (h : Hs) : gTp 2 (gsCons (gNm i) (gsCons (gNm j) gsNil)) (.tup [x, y]) e h = .ok ((e.set i (some x)).set j (some y)) h := (rfl)
theorem gTp3 (i j k : Nat) (x y z : Va) (e : En) (h : Hs) : gTp 3 (gsCons (gNm i) (gsCons (gNm j) (gsCons (gNm k) gsNil))) (.tup [x, y, z]) e h = .ok (((e.set i (some x)).set j (some y)).set k (some z)) h := (rfl)
theorem setAll_nil (e : En) : setAll [] [] e = some e := (rfl)
theorem setAll_cons (i : Nat) (is : List Nat) (x : Va) (xs : List Va) (e : En) : setAll (i :: is) (x :: xs) e = setAll is xs (e.set i (some x)) := (rfl)
theorem fm1 (a : Va) : List.filterMap (fun (j : Nat) => [a][j]?) [0] = [a] := (rfl)
theorem fm2 (a b : Va) : List.filterMap (fun (j : Nat) => [a, b][j]?) [0, 1] = [a, b] := (rfl)
theorem fm2' (a b : Va) : List.filterMap (fun (j : Nat) => [a, b][j]?) [1, 0] = [b, a] := (rfl)
theorem fm3 (a b c : Va) : List.filterMap (fun (j : Nat) => [a, b, c][j]?) [0, 1, 2] = [a, b, c] := (rfl)
theorem fm4 (a b c d : Va) : List.filterMap (fun (j : Nat) => [a, b, c, d][j]?) [0, 1, 2, 3] = [a, b, c, d] := (rfl)
theorem fm5 (a b c d f : Va) : List.filterMap (fun (j : Nat) => [a, b, c, d, f][j]?) [0, 1, 2, 3, 4] = [a, b, c, d, f] := (rfl)
theorem fm0 : List.filterMap (fun (j : Nat) => ([] : List Va)[j]?) [] = [] := (rfl)
theorem sV15 (a b c d f g j k l n o p q t u : Option Va) (x : Va) (r : En) (h : Hs) : sVar 15 (a :: b :: c :: d :: f :: g :: j :: k :: l :: n :: o :: p :: q :: t :: u :: some x :: r) h = .ok x h := (rfl)
theorem sV16 (a b c d f g j k l n o p q t u a1 : Option Va) (x : Va) (r : En) (h : Hs) : sVar 16 (a :: b :: c :: d :: f :: g :: j :: k :: l :: n :: o :: p :: q :: t :: u :: a1 :: some x :: r) h = .ok x h := (rfl)
theorem sV17 (a b c d f g j k l n o p q t u a1 a2 : Option Va) (x : Va) (r : En) (h : Hs) : sVar 17 (a :: b :: c :: d :: f :: g :: j :: k :: l :: n :: o :: p :: q :: t :: u :: a1 :: a2 :: some x :: r) h = .ok x h := (rfl)
theorem sV18 (a b c d f g j k l n o p q t u a1 a2 a3 : Option Va) (x : Va) (r : En) (h : Hs) : sVar 18 (a :: b :: c :: d :: f :: g :: j :: k :: l :: n :: o :: p :: q :: t :: u :: a1 :: a2 :: a3 :: some x :: r) h = .ok x h := (rfl)
theorem sV19 (a b c d f g j k l n o p q t u a1 a2 a3 a4 : Option Va) (x : Va) (r : En) (h : Hs) : sVar 19 (a :: b :: c :: d :: f :: g :: j :: k :: l :: n :: o :: p :: q :: t :: u :: a1 :: a2 :: a3 :: a4 :: some x :: r) h = .ok x h := (rfl)
theorem sV20 (a b c d f g j k l n o p q t u a1 a2 a3 a4 a5 : Option Va) (x : Va) (r : En) (h : Hs) : sVar 20 (a :: b :: c :: d :: f :: g :: j :: k :: l :: n :: o :: p :: q :: t :: u :: a1 :: a2 :: a3 :: a4 :: a5 :: some x :: r) h = .ok x h := (rfl)
theorem stp_ap (g : Tg) (b : Ss) (x : Va) (e : En) (h : Hs) : stp g b x e h = match g x e h with | .ok e' h' => b e' h' | _ => .bad := (rfl)
theorem itV_str (x : List Nat) (h : Hs) (l : x.length ≤ 16777216) : itV (.str x) h = some (srcV (x.map fun c => Va.str [c]), x.length) := by simp
theorem wipeE_nil (e : En) : wipeE e [] = e := (rfl)
theorem wipeE_cons (e : En) (v : Nat) (vs : List Nat) : wipeE e (v :: vs) = (wipeE e vs).set v none := (rfl)
theorem EV0 : (type_of% @fwd_ok) ∧ (type_of% @fwdS_ok) ∧ (type_of% @thn_nx) ∧ (type_of% @thn_rt) ∧ (type_of% @bnd_ap) ∧ (type_of% @bnS_ap) ∧ (type_of% @vl_ap) ∧ (type_of% @s2_ap) ∧ (type_of% @s1_ap) ∧ (type_of% @sK_ap) ∧ (type_of% @sV0) ∧ (type_of% @sV1) ∧ (type_of% @sV2) ∧ (type_of% @sV3) ∧ (type_of% @sV4) ∧ (type_of% @sV5) ∧ (type_of% @sV6) ∧ (type_of% @sV7) ∧ (type_of% @sV8) ∧ (type_of% @sV9) ∧ (type_of% @sV10) ∧ (type_of% @sV11) ∧ (type_of% @sV12) ∧ (type_of% @sV13) ∧ (type_of% @sV14) ∧ (type_of% @sV15) ∧ (type_of% @sV16) ∧ (type_of% @sV17) ∧ (type_of% @sV18) ∧ (type_of% @sV19) := ⟨@fwd_ok, @fwdS_ok, @thn_nx, @thn_rt, @bnd_ap, @bnS_ap, @vl_ap, @s2_ap, @s1_ap, @sK_ap, @sV0, @sV1, @sV2, @sV3, @sV4, @sV5, @sV6, @sV7, @sV8, @sV9, @sV10, @sV11, @sV12, @sV13, @sV14, @sV15, @sV16, @sV17, @sV18, @sV19⟩
theorem EV1 : (type_of% @sV20) ∧ (type_of% @sNil_ap) ∧ (type_of% @sCons_ap) ∧ (type_of% @sSet_ap) ∧ (type_of% @sAug_ap) ∧ (type_of% @sRet_ap) ∧ (type_of% @sDrop_ap) ∧ (type_of% @skip_ap) ∧ (type_of% @sIf_ap) ∧ (type_of% @sBl_ap) ∧ (type_of% @sTru_ap) ∧ (type_of% @sNot_ap) ∧ (type_of% @sAnd_ap) ∧ (type_of% @sOr_ap) ∧ (type_of% @sIte_ap) ∧ (type_of% @byB_t) ∧ (type_of% @byB_f) ∧ (type_of% @sAndV_ap) ∧ (type_of% @sOrV_ap) ∧ (type_of% @sBlt_ap) ∧ (type_of% @sCall_ap) ∧ (type_of% @sCallK_ap) ∧ (type_of% @sTup_ap) ∧ (type_of% @sLst_ap) ∧ (type_of% @sAsg_ap) ∧ (type_of% @sPar_ap) ∧ (type_of% @sFor_ap) ∧ (type_of% @sItr_ap) ∧ (type_of% @sLc_ap) ∧ (type_of% @sMth_ap) := ⟨@sV20, @sNil_ap, @sCons_ap, @sSet_ap, @sAug_ap, @sRet_ap, @sDrop_ap, @skip_ap, @sIf_ap, @sBl_ap, @sTru_ap, @sNot_ap, @sAnd_ap, @sOr_ap, @sIte_ap, @byB_t, @byB_f, @sAndV_ap, @sOrV_ap, @sBlt_ap, @sCall_ap, @sCallK_ap, @sTup_ap, @sLst_ap, @sAsg_ap, @sPar_ap, @sFor_ap, @sItr_ap, @sLc_ap, @sMth_ap⟩
theorem EV2 : (type_of% @fin_rt) ∧ (type_of% @fin_nx) ∧ (type_of% @sChn_ap) ∧ (type_of% @sNo_ap) ∧ (type_of% @sSo_ap) ∧ (type_of% @sSl_ap) ∧ (type_of% @ngB_f) ∧ (type_of% @ngB_t) ∧ (type_of% @litN) ∧ (type_of% @ad_ok) ∧ (type_of% @sb_ok) ∧ (type_of% @mu_ok) ∧ (type_of% @md_ok) ∧ (type_of% @fd_ok) ∧ (type_of% @eqn_ok) ∧ (type_of% @nen_ok) ∧ (type_of% @gt_ok) ∧ (type_of% @le_ok) ∧ (type_of% @lt_ok) ∧ (type_of% @ge_ok) ∧ (type_of% @mx_ok) ∧ (type_of% @mn_ok) ∧ (type_of% @it_ok) ∧ (type_of% @ib_ok) ∧ (type_of% @ia_ok) ∧ (type_of% @aw_ok) ∧ (type_of% @aws_ok) ∧ (type_of% @as_ok) ∧ (type_of% @ln_str) ∧ (type_of% @ln_tup) := ⟨@fin_rt, @fin_nx, @sChn_ap, @sNo_ap, @sSo_ap, @sSl_ap, @ngB_f, @ngB_t, @litN, @ad_ok, @sb_ok, @mu_ok, @md_ok, @fd_ok, @eqn_ok, @nen_ok, @gt_ok, @le_ok, @lt_ok, @ge_ok, @mx_ok, @mn_ok, @it_ok, @ib_ok, @ia_ok, @aw_ok, @aws_ok, @as_ok, @ln_str, @ln_tup⟩
theorem EV3 : (type_of% @ln_ros) ∧ (type_of% @eqs_ok) ∧ (type_of% @nes_ok) ∧ (type_of% @asB_bl) ∧ (type_of% @trA_bl) ∧ (type_of% @gNm_ap) ∧ (type_of% @gTp2) ∧ (type_of% @gTp3) ∧ (type_of% @setAll_nil) ∧ (type_of% @setAll_cons) ∧ (type_of% @fm0) ∧ (type_of% @fm1) ∧ (type_of% @fm2) ∧ (type_of% @fm2') ∧ (type_of% @fm3) ∧ (type_of% @fm4) ∧ (type_of% @fm5) ∧ (type_of% @stp_ap) ∧ (type_of% @wipeE_nil) ∧ (type_of% @wipeE_cons) := ⟨@ln_ros, @eqs_ok, @nes_ok, @asB_bl, @trA_bl, @gNm_ap, @gTp2, @gTp3, @setAll_nil, @setAll_cons, @fm0, @fm1, @fm2, @fm2', @fm3, @fm4, @fm5, @stp_ap, @wipeE_nil, @wipeE_cons⟩
end Fw

set_option Elab.async false
set_option linter.all false
set_option maxRecDepth 100000
set_option maxHeartbeats 4000000
set_option autoImplicit false
namespace Fw
open PySem PySem.Spec L2
open PyProof.Rows hiding St
open Pg (vN)
/-! ### values that stand for things of a type -/
class Enc (α : Type) where
  deq : DecidableEq α
  va : α → Va
  py : α → PyData
  ok : α → Prop
  dp : Nat
  rd : ∀ (h : Hs) (x : α) (n : Nat), dp < n → rdV h n (va x) = some (py x)
  dpt : ∀ x, (py x).depth ≤ dp
  cl : ∀ x, ok x → (py x).canLay0 = true
  eqv : ∀ x y, PyData.eqv (py x) (py y) = decide (x = y)
instance {α : Type} [Enc α] : DecidableEq α := Enc.deq
theorem rdV_pos {h : Hs} {n : Nat} (h0 : 0 < n) (x : Va) : ∃ m, n = m + 1 := ⟨n - 1, by omega⟩
instance : Enc Nat where
  deq := inferInstance
  va n := .int (n : Nat)
  py n := .int (n : Nat)
  ok _ := True
  dp := 0
  rd h x n l := by obtain ⟨m, rfl⟩ := rdV_pos (h := h) l (.non); rfl
  dpt x := by simp [PyData.depth]
  cl x _ := by simp [PyData.canLay0]
  eqv x y := by
    simp only [PyData.eqv]
    rw [Bool.eq_iff_iff]
    simp
    omega
instance : Enc Int where
  deq := inferInstance
  va n := .int n
  py n := .int n
  ok _ := True
  dp := 0
  rd h x n l := by obtain ⟨m, rfl⟩ := rdV_pos (h := h) l (.non); rfl
  dpt x := by simp [PyData.depth]
  cl x _ := by simp [PyData.canLay0]
  eqv x y := by
    simp only [PyData.eqv]
    rw [Bool.eq_iff_iff]
    simp
/-- texts -/
structure Tx where
  s : List Nat
  deriving DecidableEq
instance : Enc Tx where
  deq := inferInstance
  va n := .str n.s
  py n := .str ⟨n.s.toArray⟩
  ok n := ∀ c ∈ n.s, c < 0x110000
  dp := 0
  rd h x n l := by obtain ⟨m, rfl⟩ := rdV_pos (h := h) l (.non); rfl
  dpt x := by simp [PyData.depth]
  cl x q := by
    simp only [PyData.canLay0]
    show (x.s.toArray.all fun c => decide (c < 0x110000)) = true
    rw [List.all_toArray, List.all_eq_true]
    intro c hc
    exact decide_eq_true (q c hc)
  eqv x y := by
    simp only [PyData.eqv]
    rw [Bool.eq_iff_iff]
    cases x; cases y
    simp
theorem eqvAll_map {α β : Type} [DecidableEq α] {f : α → PyData} (hf : ∀ x y, PyData.eqv (f x) (f y) = decide (x = y)) : ∀ xs ys : List α, PyData.eqvAll (xs.map f) (ys.map f) = decide (xs = ys)
  | [], [] => by simp [PyData.eqvAll]
  | [], _ :: _ => by simp [PyData.eqvAll]
  | _ :: _, [] => by simp [PyData.eqvAll]
  | x :: xs, y :: ys => by
    simp only [List.map_cons, PyData.eqvAll]
    rw [hf, eqvAll_map (β := β) hf xs ys, Bool.eq_iff_iff]
    simp
theorem mapO_enc {α : Type} [Enc α] (h : Hs) (n : Nat) (l : Enc.dp α < n) : ∀ xs : List α, mapO (rdV h n) (xs.map Enc.va) = some (xs.map Enc.py)
  | [] => rfl
  | x :: xs => by simp only [List.map_cons, mapO, Enc.rd h x n l, mapO_enc h n l xs]
/-- tuples of things alike -/
instance {α : Type} [Enc α] : Enc (List α) where
  deq := inferInstance
  va xs := .tup (xs.map Enc.va)
  py xs := .tuple (xs.map Enc.py)
  ok xs := ∀ x ∈ xs, Enc.ok x
  dp := Enc.dp α + 1
  rd h x n l := by
    obtain ⟨m, rfl⟩ := rdV_pos (h := h) (show 0 < n by omega) (.non)
    simp only [rdV, mapO_enc (α := α) h m (by omega), Option.map_some]
  dpt x := by
    have := depthAll_le (k := Enc.dp α) (x.map Enc.py) (by
      intro d hd
      obtain ⟨y, _, rfl⟩ := List.mem_map.mp hd
      exact Enc.dpt y)
    simp only [PyData.depth]
    omega
  cl x q := by
    simp only [PyData.canLay0]
    refine canLayAll_of _ fun d hd => ?_
    obtain ⟨y, hy, rfl⟩ := List.mem_map.mp hd
    exact Enc.cl y (q y hy)
  eqv x y := by
    simp only [PyData.eqv]
    exact eqvAll_map (β := Unit) Enc.eqv x y
/-- pairs -/
instance {α β : Type} [Enc α] [Enc β] : Enc (α × β) where
  deq := inferInstance
  va p := .tup [Enc.va p.1, Enc.va p.2]
  py p := .tuple [Enc.py p.1, Enc.py p.2]
  ok p := Enc.ok p.1 ∧ Enc.ok p.2
  dp := max (Enc.dp α) (Enc.dp β) + 1
  rd h x n l := by
    obtain ⟨m, rfl⟩ := rdV_pos (h := h) (show 0 < n by omega) (.non)
    simp only [rdV, mapO, Enc.rd h x.1 m (by omega), Enc.rd h x.2 m (by omega), Option.map_some]
  dpt x := by
    have := Enc.dpt x.1
    have := Enc.dpt x.2
    simp only [PyData.depth, PyData.depthAll]
    omega
  cl x q := by
    simp only [PyData.canLay0, PyData.canLayAll0, Enc.cl x.1 q.1, Enc.cl x.2 q.2, Bool.and_self]
  eqv x y := by
    simp only [PyData.eqv, PyData.eqvAll, Enc.eqv]
    rw [Bool.eq_iff_iff]
    cases x; cases y
    simp
theorem eqD_of {x y : Va} {h : Hs} {d e : PyData} {b : Bool} (neg : Bool) (q1 : rdV h 24 x = some d) (q2 : rdV h 24 y = some e) (s1 : SeqAt.shaped d = true) (s2 : SeqAt.shaped e = true) (v : PyData.eqv d e = b) : kEqD neg x y h = .ok (.bl (ngB neg b)) h := by
  simp only [kEqD, q1, q2]
  rw [if_pos ⟨s1, s2⟩, v]
  cases neg <;> rfl
theorem Enc.shp {α : Type} [Enc α] (hd : Enc.dp α < 24) (x : α) (q : Enc.ok x) : SeqAt.shaped (Enc.py x) = true := by
  unfold SeqAt.shaped
  rw [Enc.cl x q, Bool.true_and]
  exact decide_eq_true (by have := Enc.dpt x; omega)
theorem eqE {α : Type} [Enc α] (neg : Bool) (hd : Enc.dp α < 24) (x y : α) (hx : Enc.ok x) (hy : Enc.ok y) (h : Hs) : kEqD neg (Enc.va x) (Enc.va y) h = .ok (.bl (ngB neg (decide (x = y)))) h :=
  eqD_of neg (Enc.rd h x 24 hd) (Enc.rd h y 24 hd) (Enc.shp hd x hx) (Enc.shp hd y hy) (Enc.eqv x y)
theorem eqN (neg : Bool) (xs ys : List Nat) (h : Hs) : kEqD neg (.tup (xs.map vN)) (.tup (ys.map vN)) h = .ok (.bl (ngB neg (decide (xs = ys)))) h :=
  eqE neg (by decide) xs ys (fun _ _ => trivial) (fun _ _ => trivial) h
theorem eq_tN (xs ys : List Nat) (h : Hs) : kEq (.tup (xs.map vN)) (.tup (ys.map vN)) h = .ok (.bl (decide (xs = ys))) h := eqN false xs ys h
theorem ne_tN (xs ys : List Nat) (h : Hs) : kNe (.tup (xs.map vN)) (.tup (ys.map vN)) h = .ok (.bl (!decide (xs = ys))) h := eqN true xs ys h
/-- lists of things alike, in the heap -/
theorem eqLE {α : Type} [Enc α] (neg : Bool) (hd : Enc.dp α < 20) {xs ys : List α} {h : Hs} {n m : Nat} (e1 : h[n]? = some (.lst (xs.map Enc.va))) (e2 : h[m]? = some (.lst (ys.map Enc.va))) (hx : ∀ x ∈ xs, Enc.ok x) (hy : ∀ x ∈ ys, Enc.ok x) : kEqD neg (.loc n) (.loc m) h = .ok (.bl (ngB neg (decide (xs = ys)))) h := by
  have r : ∀ (zs : List α) (k : Nat), h[k]? = some (.lst (zs.map Enc.va)) → rdV h 24 (.loc k) = some (.list (zs.map Enc.py)) := fun zs k e => by
    simp only [rdV, e, mapO_enc h 23 (show Enc.dp α < 23 by omega), Option.map_some]
  have s : ∀ (zs : List α), (∀ x ∈ zs, Enc.ok x) → SeqAt.shaped (.list (zs.map Enc.py)) = true := fun zs q => by
    have dd := Enc.dpt zs
    have cc := Enc.cl zs q
    have dd : (PyData.tuple (zs.map Enc.py)).depth ≤ Enc.dp α + 1 := dd
    have cc : (PyData.tuple (zs.map Enc.py)).canLay0 = true := cc
    unfold SeqAt.shaped
    have e1 : (PyData.list (zs.map Enc.py)).canLay0 = (PyData.tuple (zs.map Enc.py)).canLay0 := by simp only [PyData.canLay0]
    have e2 : (PyData.list (zs.map Enc.py)).depth = (PyData.tuple (zs.map Enc.py)).depth := by simp only [PyData.depth]
    rw [e1, e2, cc, Bool.true_and]
    exact decide_eq_true (by omega)
  exact eqD_of neg (r xs n e1) (r ys m e2) (s xs hx) (s ys hy) (by
    simp only [PyData.eqv]
    exact eqvAll_map (β := Unit) Enc.eqv xs ys)
theorem eq_lN {xs ys : List Nat} {h : Hs} {n m : Nat} (e1 : h[n]? = some (.lst (xs.map vN))) (e2 : h[m]? = some (.lst (ys.map vN))) : kEq (.loc n) (.loc m) h = .ok (.bl (decide (xs = ys))) h := eqLE false (by decide) e1 e2 (fun _ _ => trivial) (fun _ _ => trivial)
theorem ne_lN {xs ys : List Nat} {h : Hs} {n m : Nat} (e1 : h[n]? = some (.lst (xs.map vN))) (e2 : h[m]? = some (.lst (ys.map vN))) : kNe (.loc n) (.loc m) h = .ok (.bl (!decide (xs = ys))) h := eqLE true (by decide) e1 e2 (fun _ _ => trivial) (fun _ _ => trivial)
/-! ### loops and displays -/
def rgk1 : List Va → Hs → Rs (Src × Nat) := fun xs h' => match xs with | [.int j] => if -(2 ^ 62) ≤ j ∧ j < 2 ^ 62 then .ok (srcR 0 j.toNat, j.toNat) h' else .bad | _ => .bad
theorem sRg1_k (f : Sm (List Va)) (e : En) (h : Hs) : sRg1 f e h = fwd (f e h) fun xs h' => rgk1 xs h' := sRg1_int e h f
theorem rgk1_ok {j : Nat} {h : Hs} (l : j ≤ 1000000) : rgk1 [.int (j : Nat)] h = .ok (srcR 0 j, j) h := by
  unfold rgk1
  simp only []
  rw [if_pos ⟨by omega, by omega⟩]
  rfl
def rgk2 : List Va → Hs → Rs (Src × Nat) := fun xs h' => match xs with | [.int i, .int j] => if -(2 ^ 62) ≤ i ∧ i < 2 ^ 62 ∧ -(2 ^ 62) ≤ j ∧ j < 2 ^ 62 then .ok (srcR i (j - i).toNat, (j - i).toNat) h' else .bad | _ => .bad
theorem sRg2_k (f : Sm (List Va)) (e : En) (h : Hs) : sRg2 f e h = fwd (f e h) fun xs h' => rgk2 xs h' := sRg2_int e h f
theorem rgk2_ok {a j : Nat} {h : Hs} (l : a ≤ 1000000) (l2 : j ≤ 1000000) : rgk2 [.int (a : Nat), .int (j : Nat)] h = .ok (srcR (a : Nat) (j - a), j - a) h := by
  unfold rgk2
  simp only []
  rw [if_pos ⟨by omega, by omega, by omega, by omega⟩, show ((j : Int) - a).toNat = j - a by omega]
theorem loop_rg {b : Va → Ss} {n : Nat} {e : En} {h : Hs} {L : Rt} (hL : loop (srcR 0 n) b n 0 e h = L) (I : Nat → En → Hs → Prop) (h0 : I 0 e h)
    (st : ∀ i e h, i < n → I i e h → ∃ e' h', b (.int (i : Nat)) e h = .nx e' h' ∧ I (i + 1) e' h') : ∃ e' h', L = .nx e' h' ∧ I n e' h' :=
  loop_gen hL I h0 (fun i e h hi hI => by
    obtain ⟨e', h', a, c⟩ := st i e h hi hI
    exact ⟨.int (i : Nat), e', h', by simp [hi], a, c⟩) fun e h _ => by simp
theorem loop_rg2 {b : Va → Ss} {a n : Nat} {e : En} {h : Hs} {L : Rt} (hL : loop (srcR (a : Nat) n) b n 0 e h = L) (I : Nat → En → Hs → Prop) (h0 : I 0 e h)
    (st : ∀ i e h, i < n → I i e h → ∃ e' h', b (.int (a + i : Nat)) e h = .nx e' h' ∧ I (i + 1) e' h') : ∃ e' h', L = .nx e' h' ∧ I n e' h' :=
  loop_gen hL I h0 (fun i e h hi hI => by
    obtain ⟨e', h', q, c⟩ := st i e h hi hI
    exact ⟨.int (a + i : Nat), e', h', by simp [hi], q, c⟩) fun e h _ => by simp
theorem loop_xs {xs : List Va} {b : Va → Ss} {n : Nat} {e : En} {h : Hs} {L : Rt} (hL : loop (srcV xs) b n 0 e h = L) (hn : n = xs.length) (I : Nat → En → Hs → Prop) (h0 : I 0 e h)
    (st : ∀ i x e h, xs[i]? = some x → I i e h → ∃ e' h', b x e h = .nx e' h' ∧ I (i + 1) e' h') : ∃ e' h', L = .nx e' h' ∧ I xs.length e' h' := by
  subst hn
  exact loop_gen hL I h0 (fun i e h hi hI => by
    obtain ⟨e', h', q, c⟩ := st i xs[i] e h (List.getElem?_eq_getElem hi) hI
    exact ⟨xs[i], e', h', by simp [hi], q, c⟩) fun e h _ => by simp
/-- the signs of a text, one after the other -/
theorem loop_tx {s : List Nat} {b : Va → Ss} {n : Nat} {e : En} {h : Hs} {L : Rt} (hL : loop (srcV (s.map fun c => Va.str [c])) b n 0 e h = L) (hn : n = s.length) (I : Nat → En → Hs → Prop) (h0 : I 0 e h)
    (st : ∀ i c e h, s[i]? = some c → I i e h → ∃ e' h', b (.str [c]) e h = .nx e' h' ∧ I (i + 1) e' h') : ∃ e' h', L = .nx e' h' ∧ I s.length e' h' := by
  subst hn
  refine loop_gen hL I h0 (fun i e h hi hI => ?_) fun e h _ => by simp
  obtain ⟨e', h', q, c⟩ := st i s[i] e h (List.getElem?_eq_getElem hi) hI
  exact ⟨.str [s[i]], e', h', by simp [hi], q, c⟩
/-- a list in the heap that stays -/
theorem loop_ls {m : Nat} {xs : List Va} {b : Va → Ss} {n : Nat} {e : En} {h : Hs} {L : Rt} (hL : loop (srcL m) b n 0 e h = L) (hn : n = xs.length) (I : Nat → En → Hs → Prop) (h0 : I 0 e h) (hk : ∀ i e h, I i e h → h[m]? = some (.lst xs))
    (st : ∀ i x e h, xs[i]? = some x → I i e h → ∃ e' h', b x e h = .nx e' h' ∧ I (i + 1) e' h') : ∃ e' h', L = .nx e' h' ∧ I xs.length e' h' := by
  subst hn
  refine loop_gen hL I h0 (fun i e h hi hI => ?_) fun e h hI => by simp only [srcL, hk _ _ _ hI]; simp
  obtain ⟨e', h', q, c⟩ := st i xs[i] e h (List.getElem?_eq_getElem hi) hI
  exact ⟨xs[i], e', h', by simp only [srcL, hk _ _ _ hI]; simp [hi], q, c⟩
/-- a display whose things make nothing new -/
theorem lcl_pure {s : Src} {g : Tg} {t : Sm Bool} {el : Sx} {n : Nat} {e : En} {h : Hs} (X Y : Nat → Va) (hs : ∀ i, i < n → s i h = some (some (X i))) (he : s n h = some none)
    (st : ∀ i, i < n → ∃ e', g (X i) e h = .ok e' h ∧ t e' h = .ok true h ∧ el e' h = .ok (Y i) h) : lcl s g t el n 0 e h = .ok ((List.range n).map Y) h := by
  have go : ∀ k i, i + k = n → lcl s g t el k i e h = .ok ((List.range' i k).map Y) h := by
    intro k
    induction k with
    | zero =>
      intro i q
      have : i = n := by omega
      subst this
      simp [lcl, he]
    | succ k ih =>
      intro i q
      obtain ⟨e', a, b, c⟩ := st i (by omega)
      simp only [lcl, hs i (by omega), a, b, c, ih (i + 1) (by omega)]
      rw [List.range'_succ]
      rfl
  rw [List.range_eq_range']
  exact go n 0 (by omega)
theorem lcl_rg {g : Tg} {t : Sm Bool} {el : Sx} {n : Nat} {e : En} {h : Hs} (Y : Nat → Va) (st : ∀ i, i < n → ∃ e', g (.int (i : Nat)) e h = .ok e' h ∧ t e' h = .ok true h ∧ el e' h = .ok (Y i) h) : lcl (srcR 0 n) g t el n 0 e h = .ok ((List.range n).map Y) h :=
  lcl_pure (fun i => .int (i : Nat)) Y (fun i hi => by simp [hi]) (by simp) st
theorem lcl_xs {α : Type} {f : α → Va} {xs : List α} {s : Src} {g : Tg} {t : Sm Bool} {el : Sx} {e : En} {h : Hs} (k : α → Va) (hs : ∀ i, s i h = some ((xs.map f)[i]?))
    (st : ∀ x ∈ xs, ∃ e', g (f x) e h = .ok e' h ∧ t e' h = .ok true h ∧ el e' h = .ok (k x) h) : lcl s g t el xs.length 0 e h = .ok (xs.map k) h := by
  have := lcl_cnt (g := f) (xs := xs) (s := s) (gt := g) (t := t) (el := el) (e := e) (h := h) (fun _ => true) k (fun i x ex => by
    obtain ⟨e', a, b, c⟩ := st x (List.mem_of_getElem? ex)
    exact ⟨by rw [hs, List.getElem?_map, ex]; rfl, e', a, b, fun _ => c⟩) (by rw [hs]; simp)
  rwa [List.filter_eq_self.mpr (fun _ _ => rfl)] at this
theorem srcV_at (xs : List Va) (h : Hs) (i : Nat) : srcV xs i h = some xs[i]? := rfl
theorem srcL_at {xs : List Va} {h : Hs} {m : Nat} (e : h[m]? = some (.lst xs)) (i : Nat) : srcL m i h = some xs[i]? := by simp only [srcL, e]
theorem itV_tup (xs : List Va) (h : Hs) : itV (.tup xs) h = some (srcV xs, xs.length) := (rfl)
theorem itV_ros (xs : List Va) (h : Hs) : itV (.ros xs) h = some (srcV xs, xs.length) := (rfl)
theorem itV_loc {n : Nat} {xs : List Va} {h : Hs} (e : h[n]? = some (.lst xs)) : itV (.loc n) h = some (srcL n, xs.length) := by simp [e]
theorem lst_ok {ys : List Va} {h : Hs} : lst_ [] (.ok ys h) = newL ys h := by simp [lst_]
theorem le_sum : ∀ (l : List Nat) (a : Nat), a ∈ l → a ≤ l.sum
  | [], _, h => nomatch h
  | x :: l, a, h => by
    rw [List.sum_cons]
    rcases List.mem_cons.mp h with rfl | h
    · omega
    · have := le_sum l a h
      omega
theorem app_ok {n : Nat} {xs : List Va} {y : Va} {h : Hs} (e : h[n]? = some (.lst xs)) (l : xs.length < 16777216) : kApp (.loc n) [y] h = .ok .non (h.set n (.lst (xs ++ [y]))) := by
  simp only [kApp, e]
  rw [if_pos l]
end Fw

set_option Elab.async false
set_option linter.all false
set_option maxRecDepth 100000
set_option maxHeartbeats 4000000
set_option autoImplicit false
namespace Fw
open PySem PySem.Spec L2
open PyProof.Rows hiding St
open Pg (vN)
theorem new0 {h : Hs} : newL [] h = .ok (.loc h.length) (h ++ [.lst []]) := new_ok (by simp)
theorem new1 {a : Va} {h : Hs} : newL [a] h = .ok (.loc h.length) (h ++ [.lst [a]]) := new_ok (by simp)
theorem new2 {a b : Va} {h : Hs} : newL [a, b] h = .ok (.loc h.length) (h ++ [.lst [a, b]]) := new_ok (by simp)
theorem new3 {a b c : Va} {h : Hs} : newL [a, b, c] h = .ok (.loc h.length) (h ++ [.lst [a, b, c]]) := new_ok (by simp)
theorem new4 {a b c d : Va} {h : Hs} : newL [a, b, c, d] h = .ok (.loc h.length) (h ++ [.lst [a, b, c, d]]) := new_ok (by simp)
theorem new5 {a b c d f : Va} {h : Hs} : newL [a, b, c, d, f] h = .ok (.loc h.length) (h ++ [.lst [a, b, c, d, f]]) := new_ok (by simp)
theorem ln_loc {n : Nat} {xs : List Va} {h : Hs} (e : h[n]? = some (.lst xs)) : kLen [.loc n] h = .ok (.int (xs.length : Nat)) h := by simp [lsA, e]
theorem ixD_loc {n i : Nat} {xs : List Va} {x : Va} {h : Hs} (e : h[n]? = some (.lst xs)) (q : xs[i]? = some x) : kIxD (.loc n) (.int (i : Nat)) h = .ok x h := by
  simp only [kIxD, e]
  exact ix_loc e q
theorem ixD_tup {i : Nat} {xs : List Va} {x : Va} {h : Hs} (q : xs[i]? = some x) : kIxD (.tup xs) (.int (i : Nat)) h = .ok x h := ix_tupN q
theorem ix_ros {i : Nat} {xs : List Va} {x : Va} {h : Hs} (q : xs[i]? = some x) (l : xs.length ≤ 16777216) : kIx (.ros xs) (.int (i : Nat)) h = .ok x h := by
  exact ix_tupN (h := h) q
theorem rgA_nat (j : Nat) : rgA 0 (j : Nat) = (List.range j).map vN := by
  unfold rgA vN
  rw [Int.sub_zero, Int.toNat_natCast]
  congr 1
  funext k
  rw [Int.zero_add]
theorem lnRg_nat {j : Nat} (l : j ≤ 1000000) : lnRg 0 (j : Nat) := by
  unfold lnRg
  refine ⟨by decide, by decide, by omega, by omega, by omega⟩
def tupR1 : Va → Hs → Rs Va := fun x h => match x with
  | .int j => if lnRg 0 j then .ok (.tup (rgA 0 j)) h else .bad
  | _ => .bad
theorem sTupRg1_k (f : Sx) (e : En) (h : Hs) : sTupRg1 f e h = fwd (f e h) fun x h' => tupR1 x h' := (rfl)
theorem tupR1_ok {j : Nat} {h : Hs} (l : j ≤ 1000000) : tupR1 (.int (j : Nat)) h = .ok (.tup ((List.range j).map vN)) h := by
  simp only [tupR1]
  rw [if_pos (lnRg_nat l), rgA_nat]
def lstR1 : Va → Hs → Rs Va := fun x h => match x with
  | .int j => if lnRg 0 j then newL (rgA 0 j) h else .bad
  | _ => .bad
theorem sLstRg1_k (f : Sx) (e : En) (h : Hs) : sLstRg1 f e h = fwd (f e h) fun x h' => lstR1 x h' := (rfl)
theorem lstR1_ok {j : Nat} {h : Hs} (l : j ≤ 1000000) : lstR1 (.int (j : Nat)) h = .ok (.loc h.length) (h ++ [.lst ((List.range j).map vN)]) := by
  simp only [lstR1]
  rw [if_pos (lnRg_nat l), rgA_nat, new_ok (by simp; omega)]
theorem sSlW_ap (f : Sx) (lo hi : Sm (Option Int)) (e : En) (h : Hs) : sSlW f lo hi e h = fwd (f e h) fun x h1 => fwd (lo e h1) fun l h2 => fwd (hi e h2) fun u h3 => kSlW x l u h3 := (rfl)
theorem slW_tail {x : Va} {r : List Va} {h : Hs} : kSlW (.tup (x :: r)) (some ((1 : Nat) : Int)) none h = .ok (.tup r) h := by
  simp only [kSlW, HT.sIx_nat, HT.sIx_none]
  have e : min 1 (x :: r).length = 1 := by simp
  rw [if_neg (by rw [e]; simp)]
  unfold cutA
  rw [HT.sIx_nat, HT.sIx_none, e]
  simp
theorem slW_one {x : Va} {r : List Va} {h : Hs} : kSlW (.tup (x :: r)) none (some ((1 : Nat) : Int)) h = .ok (.tup [x]) h := by
  simp only [kSlW, HT.sIx_nat, HT.sIx_none]
  have e : min 1 (x :: r).length = 1 := by simp
  rw [e]
  split
  · rename_i c
    cases r with
    | nil => rfl
    | cons y r => simp at c
  · unfold cutA
    rw [HT.sIx_nat, HT.sIx_none, e]
    simp
theorem adT_ok {xs ys : List Va} {h : Hs} (l : xs.length + ys.length ≤ 16777216) : kAddW (.tup xs) (.tup ys) h = .ok (.tup (xs ++ ys)) h := if_pos l
theorem lsT_ok {xs : List Va} {h : Hs} : kLst [.tup xs] h = newL xs h := (rfl)
theorem tpL_ok {n : Nat} {xs : List Va} {h : Hs} (e : h[n]? = some (.lst xs)) : kTpl [.loc n] h = .ok (.tup xs) h := by simp [kTpl, lsA, e]
/-- the least of a tuple, the first one being the least -/
theorem minW_first {x : Nat} {r : List Nat} {h : Hs} (q : ∀ y ∈ r, x ≤ y) : kMinW [.tup ((x :: r).map vN)] h = .ok (.int (x : Nat)) h := by
  have e : mapO asI ((x :: r).map vN) = some ((x :: r).map fun n => ((n : Nat) : Int)) := mapO_some (f := asI) (g := vN) (k := fun n => ((n : Nat) : Int)) (fun _ => rfl) _
  simp only [kMinW, e]
  rw [List.map_cons]
  simp only []
  have go : ∀ (r : List Nat) (m : Nat), (∀ y ∈ r, m ≤ y) → leastI (m : Int) (r.map fun n => ((n : Nat) : Int)) = (m : Int) := by
    intro r
    induction r with
    | nil => intro m _; rfl
    | cons y r ih =>
      intro m q
      rw [List.map_cons, leastI, if_neg (by have := q y (by simp); omega)]
      exact ih m fun z hz => q z (by simp [hz])
  rw [go r x q]
/-- sorted of what ascends -/
theorem srtI_up {ns : List Int} (q : ns.Pairwise (· ≤ ·)) : srtI ns = ns := sorted_one (srtI_perm ns) (srtI_sorted ns) q
theorem srt_up {n : Nat} {xs : List Nat} {h : Hs} (e : h[n]? = some (.lst (xs.map vN))) (l : xs.length ≤ 16777216) (q : xs.Pairwise (· ≤ ·)) : kSrtI [.loc n] h = .ok (.loc h.length) (h ++ [.lst (xs.map vN)]) := by
  have e2 : (lsA (.loc n) h).bind (mapO asI) = some (xs.map fun n => ((n : Nat) : Int)) := by
    simp only [lsA, e, Option.bind_some]
    exact mapO_some (f := asI) (g := vN) (k := fun n => ((n : Nat) : Int)) (fun _ => rfl) _
  simp only [kSrtI, e2]
  rw [srtI_up (by
    rw [List.pairwise_map]
    exact q.imp fun h => by omega)]
  rw [show (xs.map fun n => ((n : Nat) : Int)).map Va.int = xs.map vN by rw [List.map_map]; rfl]
  exact new_ok (by simpa using l)
end Fw

set_option Elab.async false
set_option linter.all false
set_option maxRecDepth 100000
set_option maxHeartbeats 4000000
set_option autoImplicit false
namespace Fw
open PySem PySem.Spec L2
open PyProof.Rows hiding St
open Pg (vN)
theorem lcl_rg2 {a : Nat} {g : Tg} {t : Sm Bool} {el : Sx} {n : Nat} {e : En} {h : Hs} (Y : Nat → Va) (st : ∀ i, i < n → ∃ e', g (.int (a + i : Nat)) e h = .ok e' h ∧ t e' h = .ok true h ∧ el e' h = .ok (Y i) h) : lcl (srcR (a : Nat) n) g t el n 0 e h = .ok ((List.range n).map Y) h :=
  lcl_pure (fun i => .int (a + i : Nat)) Y (fun i hi => by simp [hi]) (by simp) st
theorem ty_str (s : List Nat) (h : Hs) : tyA "str" (.str s) h = true := (rfl)
theorem ty_lst {n : Nat} {xs : List Va} {h : Hs} (e : h[n]? = some (.lst xs)) : tyA "list" (.loc n) h = true := by simp [tyA, e]
theorem adL_ok {n m : Nat} {xs ys : List Va} {h : Hs} (e1 : h[n]? = some (.lst xs)) (e2 : h[m]? = some (.lst ys)) (l : xs.length + ys.length ≤ 16777216) : kAdd (.loc n) (.loc m) h = .ok (.loc h.length) (h ++ [.lst (xs ++ ys)]) := by
  have l' : (xs ++ ys).length ≤ 16777216 := by simpa using l
  simp [kAdd, e1, e2, new_ok l', lsA]
theorem rvL_ok {n : Nat} {xs : List Va} {h : Hs} (e : h[n]? = some (.lst xs)) (l : xs.length ≤ 16777216) : kRev (.loc n) h = .ok (.loc h.length) (h ++ [.lst xs.reverse]) := by
  simp only [kRev, e]
  exact new_ok (by simpa using l)
theorem rvS_ok {s : List Nat} {h : Hs} (l : s.length ≤ 16777216) : kRev (.str s) h = .ok (.str s.reverse) h := if_pos l
theorem rvT_ok {xs : List Va} {h : Hs} : kRevA (.tup xs) h = .ok (.tup xs.reverse) h := (rfl)
theorem set_last {h : Hs} {a b : Ob} : (h ++ [a]).set h.length b = h ++ [b] := by
  rw [List.set_append_right _ _ (Nat.le_refl _), Nat.sub_self]
  rfl
theorem app_last {h : Hs} {xs : List Va} {y : Va} (l : xs.length < 16777216) : kApp (.loc h.length) [y] (h ++ [.lst xs]) = .ok .non (h ++ [.lst (xs ++ [y])]) := by
  rw [app_ok (last_at h _) l, set_last]
/-- tuple.index: the first place of a number -/
theorem ixT_nat {xs : List Nat} {j a : Nat} {h : Hs} (e : xs[j]? = some a) (u : ∀ i, i < j → xs[i]? ≠ some a) : kIdxT (.tup (xs.map vN)) [.int (a : Nat)] h = .ok (.int (j : Nat)) h := by
  have fl : (xs.map vN).all flA = true := by
    rw [List.all_map]
    exact List.all_eq_true.mpr fun _ _ => rfl
  obtain ⟨jl, je⟩ := List.getElem?_eq_some_iff.mp e
  have f : (xs.map vN).findIdx? (fun z => eqA z (.int (a : Nat))) = some j := by
    rw [List.findIdx?_eq_some_iff_getElem]
    refine ⟨by simpa using jl, ?_, fun i hi => ?_⟩
    · simp only [List.getElem_map, je]
      simp [vN, eqA]
    · have il : i < xs.length := by omega
      have := u i hi
      rw [List.getElem?_eq_getElem il] at this
      simp only [List.getElem_map]
      simp only [vN, eqA]
      simp at this
      simp
      omega
  simp only [kIdxT]
  rw [if_pos ⟨rfl, fl⟩, f]
/-- text[:j] -/
theorem slS_to {s : List Nat} {j : Nat} {h : Hs} (l : s.length ≤ 16777216) : kSl (.str s) none (some (j : Int)) h = .ok (.str (s.take j)) h := by
  show (if s.length ≤ 16777216 then _ else _) = _
  rw [if_pos l]
  unfold cutA
  rw [HT.sIx_nat, HT.sIx_none, Nat.sub_zero, List.drop_zero]
  congr 2
  by_cases c : j ≤ s.length
  · rw [Nat.min_eq_left c]
  · rw [Nat.min_eq_right (by omega), List.take_length, List.take_of_length_le (by omega)]
/-- text[:-1] -/
theorem slS_init {s : List Nat} {h : Hs} (l : s.length ≤ 16777216) : kSl (.str s) none (some (-((1 : Nat) : Int))) h = .ok (.str s.dropLast) h := by
  show (if s.length ≤ 16777216 then _ else _) = _
  rw [if_pos l]
  unfold cutA
  rw [HT.sIx_none, Nat.sub_zero, List.drop_zero]
  have e : HT.sIx s.length s.length (some (-((1 : Nat) : Int))) = s.length - 1 := by
    show (if (-((1 : Nat) : Int)) < 0 then ((-((1 : Nat) : Int)) + (s.length : Int)).toNat else min (-((1 : Nat) : Int)).toNat s.length) = _
    rw [if_pos (by decide)]
    omega
  rw [e, List.dropLast_eq_take]
end Fw

set_option Elab.async false
set_option linter.all false
set_option maxRecDepth 100000
set_option maxHeartbeats 2000000
set_option autoImplicit false
namespace Dk
open PySem PySem.Spec L2 Fw Pg
open PyProof.Rows hiding St
def b__modulus : Ss :=
  (seq (sIf (sBl (s2 kEq (sVar 0) (sK (.str [111, 117, 116]))))
  (sRet (s2 kSub (sVar 1) (sK (.int 1))))
  skip)
  (sRet (sIte (sBl (s2 kEq (sVar 0) (sK (.str [105, 110])))) (s2 kAdd (sVar 1) (sK (.int 1))) (s2 kSub (s2 kMul (sK (.int 2)) (sVar 1)) (sK (.int 1))))))
abbrev R__modulus : Fn := runB 2 b__modulus
def G__modulus : Fn := pureF R__modulus
def b__power_of_two : Ss :=
  (seq (sSet 2 (s2 kMod (sK (.int 1)) (sVar 1)))
  (seq (sSet 3 (s2 kMod (sK (.int 2)) (sVar 1)))
  (seq (sSet 4 (sVar 0))
  (seq (whl (sBl (s2 kGt (sVar 4) (sK (.int 0))))
  (seq (sIf (sBl (s2 kEq (s2 kMod (sVar 4) (sK (.int 2))) (sK (.int 1))))
  (sSet 2 (s2 kMod (s2 kMul (sVar 2) (sVar 3)) (sVar 1)))
  skip)
  (seq (sSet 3 (s2 kMod (s2 kMul (sVar 3) (sVar 3)) (sVar 1)))
  (sSet 4 (s2 kFdv (sVar 4) (sK (.int 2)))))) 1000)
  (sRet (sVar 2))))))
abbrev R__power_of_two : Fn := runB 5 b__power_of_two
def G__power_of_two : Fn := pureF R__power_of_two
def b__need_few : Ss :=
  (sIf (sBl (s2 kGt (sVar 0) (sK (.int 1000))))
  never
  skip)
abbrev R__need_few : Fn := runB 1 b__need_few
def G__need_few : Fn := pureF R__need_few
def b__led : Ss :=
  (seq (sSet 4 (sCall G__modulus 2 [0, 1] (sCons (sVar 0) (sCons (sVar 1) sNil))))
  (seq (sIf (sBl (s2 kEq (sVar 0) (sK (.str [111, 117, 116]))))
  (sRet (sIte (sBl (s2 kEq (sVar 2) (s2 kSub (sVar 1) (sK (.int 1))))) (sVar 2) (s2 kMod (s2 kMul (sVar 2) (sVar 3)) (sVar 4))))
  skip)
  (seq (sIf (sBl (s2 kEq (sVar 0) (sK (.str [105, 110]))))
  (sRet (s2 kSub (s2 kMod (s2 kMul (s2 kAdd (sVar 2) (sK (.int 1))) (sVar 3)) (sVar 4)) (sK (.int 1))))
  skip)
  (seq (sSet 5 (s2 kMod (s2 kMul (s2 kMul (sK (.int 2)) (sVar 2)) (sVar 3)) (sVar 4)))
  (sRet (sIte (sBl (s2 kEq (s2 kMod (sVar 5) (sK (.int 2))) (sK (.int 0)))) (s2 kFdv (sVar 5) (sK (.int 2))) (s2 kFdv (s2 kSub (sVar 4) (sVar 5)) (sK (.int 2)))))))))
abbrev R__led : Fn := runB 6 b__led
def G__led : Fn := pureF R__led
def b_place_after : Ss :=
  (seq (sDrop (sCall G_need_shuffle 1 [0] (sCons (sVar 0) sNil)))
  (seq (sDrop (sCall G_need_size 1 [0] (sCons (sVar 1) sNil)))
  (seq (sDrop (sCall G_need_number 3 [0, 1, 2] (sCons (sVar 2) (sCons (sK (.int 0)) (sCons (s2 kSub (sVar 1) (sK (.int 1))) sNil)))))
  (seq (sDrop (sCall G_need_number 3 [0, 1, 2] (sCons (sVar 3) (sCons (sK (.int 0)) (sCons (sK (.int 1000000000000000000000000000000)) sNil)))))
  (sRet (sCall G__led 4 [0, 1, 2, 3] (sCons (sVar 0) (sCons (sVar 1) (sCons (sVar 2) (sCons (sCall G__power_of_two 2 [0, 1] (sCons (sVar 3) (sCons (sCall G__modulus 2 [0, 1] (sCons (sVar 0) (sCons (sVar 1) sNil))) sNil))) sNil))))))))))
abbrev R_place_after : Fn := runB 4 b_place_after
def G_place_after : Fn := pureF R_place_after
def b_order_of : Ss :=
  (seq (sDrop (sCall G_need_shuffle 1 [0] (sCons (sVar 0) sNil)))
  (seq (sDrop (sCall G_need_size 1 [0] (sCons (sVar 1) sNil)))
  (seq (sSet 2 (sCall G__modulus 2 [0, 1] (sCons (sVar 0) (sCons (sVar 1) sNil))))
  (seq (sSet 3 (sIte (sBl (s2 kEq (sVar 0) (sK (.str [102, 111, 108, 100])))) (sTup (sCons (s2 kMod (sK (.int 1)) (sVar 2)) (sCons (s2 kSub (sVar 2) (sK (.int 1))) sNil))) (sTup (sCons (s2 kMod (sK (.int 1)) (sVar 2)) sNil))))
  (seq (sSet 4 (sK (.int 1)))
  (seq (sSet 5 (s2 kMod (sK (.int 2)) (sVar 2)))
  (seq (whl (sBl (s2 (kIn true) (sVar 5) (sVar 3)))
  (seq (sAug kIad 4 (sK (.int 1)))
  (sSet 5 (s2 kMod (s2 kMul (sK (.int 2)) (sVar 5)) (sVar 2)))) 1000)
  (sRet (sVar 4)))))))))
abbrev R_order_of : Fn := runB 6 b_order_of
def G_order_of : Fn := pureF R_order_of
def b_deck_after : Ss :=
  (seq (sDrop (sCall G_need_shuffle 1 [0] (sCons (sVar 0) sNil)))
  (seq (sDrop (sCall G_need_size 1 [0] (sCons (sVar 1) sNil)))
  (seq (sDrop (sCall G_need_number 3 [0, 1, 2] (sCons (sVar 2) (sCons (sK (.int 0)) (sCons (sK (.int 1000000000000000000000000000000)) sNil)))))
  (seq (sDrop (sCall G__need_few 1 [0] (sCons (sVar 1) sNil)))
  (seq (sSet 3 (sCall G__power_of_two 2 [0, 1] (sCons (sVar 2) (sCons (sCall G__modulus 2 [0, 1] (sCons (sVar 0) (sCons (sVar 1) sNil))) sNil))))
  (seq (sSet 4 (s2 kMul (sLst (sCons (sK (.int 0)) sNil)) (sVar 1)))
  (seq (sFor (sRg1 (sCons (sVar 1) sNil)) (gNm 5)
  (sAsg (sVar 5) (gSb (sVar 4) (sCall G__led 4 [0, 1, 2, 3] (sCons (sVar 0) (sCons (sVar 1) (sCons (sVar 5) (sCons (sVar 3) sNil))))))))
  (sRet (sBlt kTpl (sCons (sVar 4) sNil))))))))))
abbrev R_deck_after : Fn := runB 6 b_deck_after
def G_deck_after : Fn := pureF R_deck_after
def b_loops : Ss :=
  (seq (sDrop (sCall G_need_shuffle 1 [0] (sCons (sVar 0) sNil)))
  (seq (sDrop (sCall G_need_size 1 [0] (sCons (sVar 1) sNil)))
  (seq (sDrop (sCall G__need_few 1 [0] (sCons (sVar 1) sNil)))
  (seq (sSet 2 (sLst sNil))
  (seq (sSet 3 (s2 kMul (sLst (sCons (sK (.bl false)) sNil)) (sVar 1)))
  (seq (sFor (sRg1 (sCons (sVar 1) sNil)) (gNm 4)
  (seq (sSet 5 (sLst sNil))
  (seq (sSet 6 (sVar 4))
  (seq (whl (sNot (sTru (s2 kIx (sVar 3) (sVar 6))))
  (seq (sAsg (sK (.bl true)) (gSb (sVar 3) (sVar 6)))
  (seq (sDrop (sMth "list" kApp (sVar 5) (sCons (sVar 6) sNil)))
  (sSet 6 (sCall G__led 4 [0, 1, 2, 3] (sCons (sVar 0) (sCons (sVar 1) (sCons (sVar 6) (sCons (sK (.int 2)) sNil)))))))) 1000)
  (sIf (sTru (sVar 5))
  (sDrop (sMth "list" kApp (sVar 2) (sCons (sBlt kTpl (sCons (sVar 5) sNil)) sNil)))
  skip)))))
  (sRet (sBlt kTpl (sCons (sVar 2) sNil)))))))))
abbrev R_loops : Fn := runB 7 b_loops
def G_loops : Fn := pureF R_loops
def b_row_to : Ss :=
  (seq (sDrop (sCall G_need_size 1 [0] (sCons (sVar 0) sNil)))
  (seq (sDrop (sCall G_need_number 3 [0, 1, 2] (sCons (sVar 1) (sCons (sK (.int 0)) (sCons (s2 kSub (sVar 0) (sK (.int 1))) sNil)))))
  (seq (sSet 2 (sLst sNil))
  (seq (sSet 3 (sVar 1))
  (seq (whl (sBl (s2 kGt (sVar 3) (sK (.int 0))))
  (seq (sDrop (sMth "list" kApp (sVar 2) (sCons (sIte (sBl (s2 kEq (s2 kMod (sVar 3) (sK (.int 2))) (sK (.int 1)))) (sK (.str [105])) (sK (.str [111]))) sNil)))
  (sSet 3 (s2 kFdv (sVar 3) (sK (.int 2))))) 1000)
  (sRet (sMth "str" kJoin (sK (.str [])) (sCons (s1 kRev (sVar 2)) sNil))))))))
abbrev R_row_to : Fn := runB 4 b_row_to
def G_row_to : Fn := pureF R_row_to
end Dk

set_option Elab.async false
set_option linter.all false
set_option maxRecDepth 100000
set_option maxHeartbeats 4000000
set_option autoImplicit false
namespace Dv
/-- a step of going on by remainders -/
def eus (p : Nat × Nat) : Nat × Nat := if 0 < p.2 then (p.2, p.1 % p.2) else p
def eu : Nat → Nat × Nat → Nat × Nat
  | 0, p => p
  | n + 1, p => eus (eu n p)
/-- 2 to a power, as it is led out -/
def pws (m : Nat) : Nat × Nat × Nat → Nat × Nat × Nat
  | (f, s, l) => (if l % 2 = 1 then f * s % m else f, s * s % m, l / 2)
def pwl (m : Nat) : Nat → Nat × Nat × Nat → Nat
  | 0, p => p.1
  | n + 1, p => if p.2.2 = 0 then p.1 else pwl m n (pws m p)
def pw (e m : Nat) : Nat := pwl m 100 (1 % m, 2 % m, e)
/-- where a card is led to -/
def led (s p w : Nat) : Nat :=
  let t := 2 * p * w % (2 * s - 1)
  if t % 2 = 0 then t / 2 else (2 * s - 1 - t) / 2
def deck (s w : Nat) : Nat → List Nat → List Nat
  | 0, d => d
  | n + 1, d => deck s w n (d.set (led s (s - (n + 1)) w) (s - (n + 1)))
end Dv
namespace Dk
open PySem PySem.Spec L2 Fw Pg
open PyProof.Rows hiding St
abbrev Fd : Va := .str [102, 111, 108, 100]
theorem need_shuffle_ok {h : Hs} : G_need_shuffle [Fd] h = .ok .non h := pure_of (h' := []) rfl rfl rfl
theorem is_size_ok {s : Nat} {h : Hs} (s0 : 2 ≤ s) (s1 : s ≤ 1000000) (s2 : s % 2 = 0) : Pg.G_is_size [.int (s : Nat)] h = .ok (.bl true) h := by
  have iw : ∀ h, G_is_within [.int (s : Nat), .int 2, .int 1000000] h = .ok (.bl true) h := fun h => is_within_ok (by omega) (by omega)
  have md : ∀ h, kMod (.int (s : Nat)) (.int 2) h = .ok (.int 0) h := fun h => by
    simp only [kMod]
    rw [if_pos (by decide)]
    congr 2
    omega
  refine pure_of rfl (h' := []) ?_ rfl
  simp [runB_ap, b_is_size, iw, md]
theorem need_sizeL {s : Nat} {h : Hs} (s0 : 2 ≤ s) (s1 : s ≤ 1000000) (s2 : s % 2 = 0) : Pg.G_need_size [.int (s : Nat)] h = .ok .non h := by
  have iw := fun h => is_size_ok (s := s) (h := h) s0 s1 s2
  refine pure_of rfl (h' := []) ?_ rfl
  simp [runB_ap, b_need_size, iw, trA]
theorem need_size_ok {s : Nat} {h : Hs} (s0 : 2 ≤ s) (s1 : s ≤ 1000) (s2 : s % 2 = 0) : Pg.G_need_size [.int (s : Nat)] h = .ok .non h := need_sizeL s0 (by omega) s2
theorem need_few_ok {s : Nat} {h : Hs} (s1 : s ≤ 1000) : G__need_few [.int (s : Nat)] h = .ok .non h := by
  refine pure_of rfl (h' := []) ?_ rfl
  simp [runB_ap, b__need_few, show ¬(1000 : Int) < s by omega]
theorem modulus_ok {s : Nat} {h : Hs} (s0 : 2 ≤ s) (s1 : s ≤ 1000) : G__modulus [Fd, .int (s : Nat)] h = .ok (.int (2 * s - 1 : Nat)) h := by
  refine pure_of rfl (h' := []) ?_ rfl
  simp [runB_ap, b__modulus, kMul]
  omega
theorem power_ok {e m : Nat} {h : Hs} (m0 : 0 < m) (m1 : m ≤ 2000000) (e1 : e < 2 ^ 100) : G__power_of_two [.int (e : Nat), .int (m : Nat)] h = .ok (.int (Dv.pw e m : Nat)) h := by
  suffices hh : ∃ h', R__power_of_two [.int (e : Nat), .int (m : Nat)] [] = .ok (.int (Dv.pw e m : Nat)) h' by
    obtain ⟨h', hh⟩ := hh
    exact pure_of rfl hh rfl
  have t0 : sSet 2 (s2 kMod (sK (.int 1)) (sVar 1)) [some (.int (e : Nat)), some (.int (m : Nat)), none, none, none] [] = .nx [some (.int (e : Nat)), some (.int (m : Nat)), some (.int (1 % m : Nat)), none, none] [] := by
    simp [show ∀ h, kMod (.int 1) (.int (m : Nat)) h = .ok (.int (1 % m : Nat)) h from fun h => md_ok (a := 1) m0]
  have t1 : sSet 3 (s2 kMod (sK (.int 2)) (sVar 1)) [some (.int (e : Nat)), some (.int (m : Nat)), some (.int (1 % m : Nat)), none, none] [] = .nx [some (.int (e : Nat)), some (.int (m : Nat)), some (.int (1 % m : Nat)), some (.int (2 % m : Nat)), none] [] := by
    simp [show ∀ h, kMod (.int 2) (.int (m : Nat)) h = .ok (.int (2 % m : Nat)) h from fun h => md_ok (a := 2) m0]
  have hl1 : 1 % m < m := Nat.mod_lt _ m0
  have hl2 : 2 % m < m := Nat.mod_lt _ m0
  have hP : Dv.pw e m = Dv.pwl m 100 (1 % m, 2 % m, e) := rfl
  generalize Dv.pw e m = P at *
  generalize 1 % m = f0 at *
  generalize 2 % m = s0 at *
  show ∃ h', fin (b__power_of_two [some (.int (e : Nat)), some (.int (m : Nat)), none, none, none] []) = _
  unfold b__power_of_two
  rw [seq_nx t0, seq_nx t1, seq_nx (e' := [some (.int (e : Nat)), some (.int (m : Nat)), some (.int (f0 : Nat)), some (.int (s0 : Nat)), some (.int (e : Nat))]) (h' := []) (by simp), seq_ap]
  generalize hL : whl _ _ _ _ _ = L
  obtain ⟨e', h', rfl, s, l, rfl, rfl⟩ := whl_any hL (fun n en h => ∃ (f s l : Nat), en = [some (.int (e : Nat)), some (.int (m : Nat)), some (.int (f : Nat)), some (.int (s : Nat)), some (.int (l : Nat))] ∧ h = [] ∧ f < m ∧ s < m ∧ l < 2 ^ n ∧ Dv.pwl m n (f, s, l) = P)
    (fun en h => ∃ (s l : Nat), en = [some (.int (e : Nat)), some (.int (m : Nat)), some (.int (P : Nat)), some (.int (s : Nat)), some (.int (l : Nat))] ∧ h = []) 100 (by decide) ⟨f0, s0, e, rfl, rfl, hl1, hl2, e1, hP.symm⟩ (by
    rintro n en h ⟨f, s, l, rfl, rfl, b1, b2, b3, b4⟩
    by_cases c : l = 0
    · subst c
      refine .inl ⟨[], by simp, s, 0, ?_, rfl⟩
      have : f = P := by
        rw [← b4]
        cases n <;> simp [Dv.pwl]
      rw [this]
    · cases n with
      | zero => omega
      | succ n =>
        rw [Dv.pwl, if_neg c] at b4
        refine .inr ⟨n, [], [some (.int (e : Nat)), some (.int (m : Nat)), some (.int ((if l % 2 = 1 then f * s % m else f : Nat) : Nat)), some (.int (s * s % m : Nat)), some (.int (l / 2 : Nat))], [], rfl, by simp; omega, ?_, if l % 2 = 1 then f * s % m else f, s * s % m, l / 2, rfl, rfl, ?_, Nat.mod_lt _ m0, by rw [Nat.pow_succ] at b3; omega, b4⟩
        · have a1 : ∀ h, kMod (.int (l : Nat)) (.int 2) h = .ok (.int (l % 2 : Nat)) h := fun h => md_ok (m := 2) (by decide)
          have a2 : ∀ h, kFdv (.int (l : Nat)) (.int 2) h = .ok (.int (l / 2 : Nat)) h := fun h => fd_ok (m := 2) (by decide) (by decide)
          have a3 : ∀ h, kEq (.int (l % 2 : Nat)) (.int 1) h = .ok (.bl (decide (l % 2 = 1))) h := fun h => eqn_ok (b := 1)
          have a4 := fun h => mu_ok (a := f) (b := s) (h := h) (by omega)
          have a5 := fun h => mu_ok (a := s) (b := s) (h := h) (by omega)
          have a6 := fun h => md_ok (a := f * s) (h := h) m0
          have a7 := fun h => md_ok (a := s * s) (h := h) m0
          generalize l % 2 = L2 at *
          generalize l / 2 = L3 at *
          generalize f * s = fs at *
          generalize s * s = ss at *
          generalize fs % m = fs2 at *
          generalize ss % m = ss2 at *
          by_cases d : L2 = 1
          · rw [if_pos d]
            simp only [decide_eq_true d] at a3
            simp [-kEq, a1, a2, a3, a4, a5, a6, a7]
          · rw [if_neg d]
            simp only [decide_eq_false d] at a3
            simp [-kEq, a1, a2, a3, a4, a5, a6, a7]
        · split
          · exact Nat.mod_lt _ m0
          · exact b1)
  simp
theorem led_ok {s p w : Nat} {h : Hs} (s0 : 2 ≤ s) (s1 : s ≤ 1000) (p1 : p < s) (w1 : w < 2 * s) : G__led [Fd, .int (s : Nat), .int (p : Nat), .int (w : Nat)] h = .ok (.int (Dv.led s p w : Nat)) h := by
  refine pure_of rfl (h' := []) ?_ rfl
  have a0 := fun h => modulus_ok (h := h) s0 s1
  have a1 : ∀ h, kMul (.int 2) (.int (p : Nat)) h = .ok (.int (2 * p : Nat)) h := fun h => mu_ok (a := 2) (by decide)
  have a2 := fun h => mu_ok (a := 2 * p) (b := w) (h := h) (by omega)
  have m0 : 0 < 2 * s - 1 := by omega
  have a3 := fun h => md_ok (a := 2 * p * w) (m := 2 * s - 1) (h := h) m0
  have hl : 2 * p * w % (2 * s - 1) < 2 * s - 1 := Nat.mod_lt _ m0
  unfold Dv.led
  simp only []
  generalize 2 * p * w % (2 * s - 1) = t at *
  have a4 : ∀ h, kMod (.int (t : Nat)) (.int 2) h = .ok (.int (t % 2 : Nat)) h := fun h => md_ok (m := 2) (by decide)
  have a5 : ∀ h, kEq (.int (t % 2 : Nat)) (.int 0) h = .ok (.bl (decide (t % 2 = 0))) h := fun h => eqn_ok (b := 0)
  have a6 : ∀ h, kFdv (.int (t : Nat)) (.int 2) h = .ok (.int (t / 2 : Nat)) h := fun h => fd_ok (m := 2) (by decide) (by decide)
  have a7 := fun h => sb_ok (a := 2 * s - 1) (b := t) (h := h) (by omega)
  have a8 : ∀ h, kFdv (.int (2 * s - 1 - t : Nat)) (.int 2) h = .ok (.int ((2 * s - 1 - t) / 2 : Nat)) h := fun h => fd_ok (m := 2) (by decide) (by decide)
  generalize t % 2 = t2 at *
  generalize t / 2 = t3 at *
  generalize (2 * s - 1 - t) / 2 = t5 at *
  generalize 2 * s - 1 - t = t4 at *
  generalize 2 * p * w = x1 at *
  generalize 2 * p = x0 at *
  generalize 2 * s - 1 = M at *
  have f1 : ∀ h, kEq Fd (.str [111, 117, 116]) h = .ok (.bl false) h := fun h => rfl
  have f2 : ∀ h, kEq Fd (.str [105, 110]) h = .ok (.bl false) h := fun h => rfl
  by_cases c : t2 = 0
  · rw [if_pos c]
    simp only [decide_eq_true c] at a5
    simp [-kEq, -kSub, runB_ap, b__led, a0, a1, a2, a3, a4, a5, a6, a7, a8, f1, f2]
  · rw [if_neg c]
    simp only [decide_eq_false c] at a5
    simp [-kEq, -kSub, runB_ap, b__led, a0, a1, a2, a3, a4, a5, a6, a7, a8, f1, f2]
end Dk

set_option Elab.async false
set_option linter.all false
set_option maxRecDepth 100000
set_option maxHeartbeats 4000000
set_option autoImplicit false
namespace Fw
open PySem PySem.Spec L2
open PyProof.Rows hiding St
/-- all but one place stay -/
def Ko (D : Nat) (h h' : Hs) : Prop := ∀ (i : Nat) (o : Ob), i ≠ D → h[i]? = some o → h'[i]? = some o
theorem Gr.len {h h' : Hs} (g : Gr h h') : h.length ≤ h'.length := by
  obtain ⟨r, rfl⟩ := g
  rw [List.length_append]
  omega
theorem Ko.refl (D : Nat) (h : Hs) : Ko D h h := fun _ _ _ e => e
theorem Ko.trans {D : Nat} {a b c : Hs} (p : Ko D a b) (q : Ko D b c) : Ko D a c := fun i o n e => q i o n (p i o n e)
theorem Ko.gr {D : Nat} {h h' : Hs} (g : Gr h h') : Ko D h h' := fun _ _ _ e => g.at e
theorem Ko.set {D : Nat} {h : Hs} (o : Ob) : Ko D h (h.set D o) := fun i _ n e => by
  rw [List.getElem?_set_ne (Ne.symm n)]
  exact e
theorem lap_inv {D : Nat} {s : Src} {g : Tg} {t : Sm Bool} {el : Sx} {n : Nat} {e : En} (J : Nat → Hs → Prop)
    (st : ∀ i h, i < n → J i h → ∃ x e' h1 b h2, s i h = some (some x) ∧ g x e h = .ok e' h1 ∧ t e' h1 = .ok b h2 ∧ ((b = true ∧ ∃ y h3 h4, el e' h2 = .ok y h3 ∧ kApp (.loc D) [y] h3 = .ok .non h4 ∧ J (i + 1) h4) ∨ (b = false ∧ J (i + 1) h2)))
    (en : ∀ h, J n h → s n h = some none) {h : Hs} (h0 : J 0 h) : ∃ h', lap D s g t el n 0 e h = .ok () h' ∧ J n h' := by
  have go : ∀ k i h, i + k = n → J i h → ∃ h', lap D s g t el k i e h = .ok () h' ∧ J n h' := by
    intro k
    induction k with
    | zero =>
      intro i h q hJ
      have : i = n := by omega
      subst this
      exact ⟨h, by simp only [lap, en h hJ], hJ⟩
    | succ k ih =>
      intro i h q hJ
      obtain ⟨x, e', h1, b, h2, a1, a2, a3, a4⟩ := st i h (by omega) hJ
      rcases a4 with ⟨rfl, y, h3, h4, a5, a6, a7⟩ | ⟨rfl, a5⟩
      · obtain ⟨h', b1, b2⟩ := ih (i + 1) h4 (by omega) a7
        exact ⟨h', by simp only [lap, a1, a2, a3, a5, a6, b1], b2⟩
      · obtain ⟨h', b1, b2⟩ := ih (i + 1) h2 (by omega) a5
        exact ⟨h', by simp only [lap, a1, a2, a3, b1], b2⟩
  exact go n 0 h (by omega) h0
theorem lap2_inv {D : Nat} {s : Src} {g : Tg} {t : Sm Bool} {f1 : Sit} {g1 : Tg} {t1 : Sm Bool} {el : Sx} {own1 : List Nat} {n : Nat} {e : En} (J : Nat → Hs → Prop)
    (st : ∀ i h, i < n → J i h → ∃ x e' h1 h2 s1 h3 h4, s i h = some (some x) ∧ g x e h = .ok e' h1 ∧ t e' h1 = .ok true h2 ∧ f1 e' h2 = .ok s1 h3 ∧ lap D s1.1 g1 t1 el s1.2 0 (wipeE e' own1) h3 = .ok () h4 ∧ J (i + 1) h4)
    (en : ∀ h, J n h → s n h = some none) {h : Hs} (h0 : J 0 h) : ∃ h', lap2 D s g t f1 g1 t1 el own1 n 0 e h = .ok () h' ∧ J n h' := by
  have go : ∀ k i h, i + k = n → J i h → ∃ h', lap2 D s g t f1 g1 t1 el own1 k i e h = .ok () h' ∧ J n h' := by
    intro k
    induction k with
    | zero =>
      intro i h q hJ
      have : i = n := by omega
      subst this
      exact ⟨h, by simp only [lap2, en h hJ], hJ⟩
    | succ k ih =>
      intro i h q hJ
      obtain ⟨x, e', h1, h2, s1, h3, h4, a1, a2, a3, a4, a5, a6⟩ := st i h (by omega) hJ
      obtain ⟨h', b1, b2⟩ := ih (i + 1) h4 (by omega) a6
      exact ⟨h', by simp only [lap2, a1, a2, a3, a4, a5, b1], b2⟩
  exact go n 0 h (by omega) h0
theorem sLc2_ap (f : Sit) (g : Tg) (t : Sm Bool) (f1 : Sit) (g1 : Tg) (t1 : Sm Bool) (el : Sx) (own own1 : List Nat) (e : En) (h : Hs) : sLc2 f g t f1 g1 t1 el own own1 e h = fwd (f e h) fun s h' => lapV h'.length (lap2 h'.length s.1 g t f1 g1 t1 el own1 s.2 0 (wipeE e own) (h' ++ [.lst []])) := (rfl)
theorem lapV_ok (n : Nat) (h : Hs) : lapV n (.ok () h) = .ok (.loc n) h := (rfl)
/-- a loop of lap whose things make nothing -/
theorem lap_pure {D : Nat} {s : Src} {g : Tg} {t : Sm Bool} {el : Sx} {n : Nat} {e : En} (X Y : Nat → Va) (p : Nat → Bool) {acc : List Va} {h : Hs} (hD : h[D]? = some (.lst acc)) (hl : acc.length + n ≤ 16777216)
    (hs : ∀ i hx, i < n → Ko D h hx → s i hx = some (some (X i))) (he : ∀ hx, Ko D h hx → s n hx = some none)
    (st : ∀ i hx, i < n → Ko D h hx → ∃ e', g (X i) e hx = .ok e' hx ∧ t e' hx = .ok (p i) hx ∧ (p i = true → el e' hx = .ok (Y i) hx)) :
    ∃ h', lap D s g t el n 0 e h = .ok () h' ∧ Ko D h h' ∧ h'[D]? = some (.lst (acc ++ ((List.range n).filter p).map Y)) := by
  refine lap_inv (fun i hx => Ko D h hx ∧ hx[D]? = some (.lst (acc ++ ((List.range i).filter p).map Y))) ?_ (fun hx q => he hx q.1) ⟨.refl _ _, by simpa using hD⟩
  rintro i hx hi ⟨k, d⟩
  obtain ⟨e', a, b, c⟩ := st i hx hi k
  refine ⟨X i, e', hx, p i, hx, hs i hx hi k, a, b, ?_⟩
  rw [List.range_succ, List.filter_append]
  by_cases q : p i = true
  · refine .inl ⟨q, Y i, hx, _, c q, app_ok d (by
      have := List.length_filter_le p (List.range i)
      rw [List.length_range] at this
      rw [List.length_append, List.length_map]
      omega), k.trans (.set _), ?_⟩
    rw [List.getElem?_set_self (List.getElem?_eq_some_iff.mp d).1]
    simp [q]
  · have q : p i = false := by simpa using q
    refine .inr ⟨q, k, ?_⟩
    simpa [q] using d
theorem Gr.ofKo {h h' : Hs} {o : Ob} (k : Ko h.length (h ++ [o]) h') : Gr h h' := by
  refine ⟨h'.drop h.length, ?_⟩
  have e : h'.take h.length = h := by
    refine List.ext_getElem? fun i => ?_
    by_cases c : i < h.length
    · rw [List.getElem?_take_of_lt c]
      have := k i h[i] (by omega) (by rw [List.getElem?_append_left c, List.getElem?_eq_getElem c])
      rw [this, List.getElem?_eq_getElem c]
    · rw [List.getElem?_eq_none_iff.mpr (by rw [List.length_take]; omega), List.getElem?_eq_none_iff.mpr (by omega)]
  rw [← e, List.length_take]
  by_cases c : h.length ≤ h'.length
  · rw [Nat.min_eq_left c, List.take_append_drop]
  · rw [Nat.min_eq_right (by omega), List.take_of_length_le (Nat.le_of_lt (by omega)), List.drop_length, List.append_nil]
/-- a display over a list, whose test and things make new things only -/
theorem lcl_gr {α : Type} {f : α → Va} {xs : List α} {p : α → Bool} {k : α → Va} {s : Src} {g : Tg} {t : Sm Bool} {el : Sx} {e : En} {h : Hs}
    (hs : ∀ hx, Gr h hx → ∀ i, s i hx = some (xs.map f)[i]?)
    (st : ∀ x ∈ xs, ∀ hx, Gr h hx → ∃ e' h2, g (f x) e hx = .ok e' hx ∧ t e' hx = .ok (p x) h2 ∧ Gr hx h2 ∧ (p x = true → ∃ h3, el e' h2 = .ok (k x) h3 ∧ Gr h2 h3)) :
    ∃ h', lcl s g t el xs.length 0 e h = .ok ((xs.filter p).map k) h' ∧ Gr h h' := by
  have := lcl_fil (s := s) (g := g) (t := t) (el := el) (n := xs.length) (e := e) (fun i => ((xs.drop i).filter p).map k) (by simp) (fun _ hx => Gr h hx) (by
    intro i hx hi gx
    have ex : xs[i]? = some xs[i] := List.getElem?_eq_getElem hi
    have d : xs.drop i = xs[i] :: xs.drop (i + 1) := List.drop_eq_getElem_cons hi
    obtain ⟨e', h2, a, b, c, q⟩ := st xs[i] (List.getElem_mem hi) hx gx
    refine ⟨f xs[i], e', hx, h2, p xs[i], by rw [hs hx gx, List.getElem?_map, ex]; rfl, a, b, fun pf => ⟨?_, gx.trans c⟩, fun pt => ?_⟩
    · rw [d, List.filter_cons_of_neg (by simp [pf])]
    · obtain ⟨h3, u, v⟩ := q pt
      exact ⟨k xs[i], h3, u, by rw [d, List.filter_cons_of_pos pt]; rfl, (gx.trans c).trans v⟩) (by
    intro hx gx
    rw [hs hx gx]
    simp) (h := h) (.refl _)
  obtain ⟨h', a, b⟩ := this
  exact ⟨h', by simpa using a, b⟩
theorem lap_gr {α : Type} {f : α → Va} {xs : List α} {p : α → Bool} {k : α → Va} {D : Nat} {s : Src} {g : Tg} {t : Sm Bool} {el : Sx} {e : En} {h : Hs} {acc : List Va} (hD : h[D]? = some (.lst acc)) (l : acc.length + xs.length ≤ 16777216)
    (hs : ∀ hx, Ko D h hx → ∀ i, s i hx = some (xs.map f)[i]?)
    (st : ∀ x ∈ xs, ∀ hx, Ko D h hx → ∃ e' h2, g (f x) e hx = .ok e' hx ∧ t e' hx = .ok (p x) h2 ∧ Gr hx h2 ∧ (p x = true → ∃ h3, el e' h2 = .ok (k x) h3 ∧ Gr h2 h3)) :
    ∃ h', lap D s g t el xs.length 0 e h = .ok () h' ∧ Ko D h h' ∧ h'[D]? = some (.lst (acc ++ (xs.filter p).map k)) := by
  have := lap_inv (D := D) (s := s) (g := g) (t := t) (el := el) (n := xs.length) (e := e) (fun i hx => Ko D h hx ∧ hx[D]? = some (.lst (acc ++ ((xs.take i).filter p).map k))) (by
    rintro i hx hi ⟨kx, d⟩
    have ex : xs[i]? = some xs[i] := List.getElem?_eq_getElem hi
    obtain ⟨e', h2, a, b, c, q⟩ := st xs[i] (List.getElem_mem hi) hx kx
    have tk : xs.take (i + 1) = xs.take i ++ [xs[i]] := by rw [List.take_add_one, ex]; rfl
    refine ⟨f xs[i], e', hx, p xs[i], h2, by rw [hs hx kx, List.getElem?_map, ex]; rfl, a, b, ?_⟩
    rw [tk, List.filter_append]
    by_cases pt : p xs[i] = true
    · obtain ⟨h3, u, v⟩ := q pt
      have d3 := v.at (c.at d)
      refine .inl ⟨pt, k xs[i], h3, _, u, app_ok d3 (by
        have := List.length_filter_le p (xs.take i)
        rw [List.length_take] at this
        rw [List.length_append, List.length_map]
        omega), ((kx.trans (.gr c)).trans (.gr v)).trans (.set _), ?_⟩
      rw [List.getElem?_set_self (List.getElem?_eq_some_iff.mp d3).1]
      simp [pt]
    · have pf : p xs[i] = false := by simpa using pt
      refine .inr ⟨pf, kx.trans (.gr c), ?_⟩
      rw [c.at d]
      simp [pf]) (by
    rintro hx ⟨kx, _⟩
    rw [hs hx kx]
    simp) (h := h) ⟨.refl _ _, by simpa using hD⟩
  obtain ⟨h', a, b, c⟩ := this
  exact ⟨h', a, b, by simpa using c⟩
/-- a display of two clauses -/
theorem lc2_gr {α β : Type} {f : α → Va} {f2 : β → Va} {xs : List α} {ys : α → List β} {p : α → β → Bool} {k : α → β → Va} {sit f1 : Sit} {s : Src} {g g1 : Tg} {t t1 : Sm Bool} {el : Sx} {own own1 : List Nat} {e : En} {h h0 : Hs}
    (fs : sit e h0 = .ok (s, xs.length) h) (g0 : Gr h0 h)
    (hs : ∀ hx, Ko h.length (h ++ [.lst []]) hx → ∀ i, s i hx = some (xs.map f)[i]?)
    (st : ∀ x ∈ xs, ∀ hx, h.length < hx.length → Ko h.length (h ++ [.lst []]) hx → ∃ e' s1 h3, g (f x) (wipeE e own) hx = .ok e' hx ∧ t e' hx = .ok true hx ∧ f1 e' hx = .ok (s1, (ys x).length) h3 ∧ Gr hx h3 ∧ (∀ hy, Ko h.length h3 hy → ∀ i, s1 i hy = some ((ys x).map f2)[i]?) ∧
      ∀ y ∈ ys x, ∀ hy, Ko h.length h3 hy → ∃ e'' h4, g1 (f2 y) (wipeE e' own1) hy = .ok e'' hy ∧ t1 e'' hy = .ok (p x y) h4 ∧ Gr hy h4 ∧ (p x y = true → ∃ h5, el e'' h4 = .ok (k x y) h5 ∧ Gr h4 h5))
    (l : (xs.flatMap ys).length ≤ 16777216) :
    ∃ h', sLc2 sit g t f1 g1 t1 el own own1 e h0 = .ok (.loc h.length) h' ∧ Gr h0 h' ∧ h'[h.length]? = some (.lst (xs.flatMap fun x => ((ys x).filter (p x)).map (k x))) := by
  have lt : ∀ i, (hi : i < xs.length) → ((xs.take i).flatMap fun x => ((ys x).filter (p x)).map (k x)).length + (ys xs[i]).length ≤ 16777216 := fun i hi => by
    have a : ((xs.take i).flatMap fun x => ((ys x).filter (p x)).map (k x)).length ≤ ((xs.take i).flatMap ys).length := by
      generalize xs.take i = zs
      induction zs with
      | nil => simp
      | cons z zs ih =>
        rw [List.flatMap_cons, List.flatMap_cons, List.length_append, List.length_append, List.length_map]
        have := List.length_filter_le (p z) (ys z)
        omega
    have b : xs = xs.take i ++ (xs[i] :: xs.drop (i + 1)) := by rw [← List.drop_eq_getElem_cons hi, List.take_append_drop]
    have c : (xs.flatMap ys).length = ((xs.take i).flatMap ys).length + ((ys xs[i]).length + ((xs.drop (i + 1)).flatMap ys).length) := by
      conv => lhs; rw [b]
      rw [List.flatMap_append, List.flatMap_cons, List.length_append, List.length_append]
    omega
  have := lap2_inv (D := h.length) (s := s) (g := g) (t := t) (f1 := f1) (g1 := g1) (t1 := t1) (el := el) (own1 := own1) (n := xs.length) (e := wipeE e own) (fun i hx => Ko h.length (h ++ [.lst []]) hx ∧ hx[h.length]? = some (.lst ((xs.take i).flatMap fun x => ((ys x).filter (p x)).map (k x)))) (by
    rintro i hx hi ⟨kx, d⟩
    have ex : xs[i]? = some xs[i] := List.getElem?_eq_getElem hi
    obtain ⟨e', s1, h3, a, b, c, g3, q, r⟩ := st xs[i] (List.getElem_mem hi) hx (List.getElem?_eq_some_iff.mp d).1 kx
    have tk : xs.take (i + 1) = xs.take i ++ [xs[i]] := by rw [List.take_add_one, ex]; rfl
    obtain ⟨h4, u, v, w⟩ := lap_gr (D := h.length) (s := s1) (g := g1) (t := t1) (el := el) (xs := ys xs[i]) (f := f2) (p := p xs[i]) (k := k xs[i]) (e := wipeE e' own1) (g3.at d) (lt i hi) q r
    refine ⟨f xs[i], e', hx, hx, (s1, (ys xs[i]).length), h3, h4, by rw [hs hx kx, List.getElem?_map, ex]; rfl, a, b, c, u, (kx.trans (.gr g3)).trans v, ?_⟩
    rw [w, tk, List.flatMap_append]
    simp) (by
    rintro hx ⟨kx, _⟩
    rw [hs hx kx]
    simp) (h := h ++ [.lst []]) ⟨.refl _ _, by simp⟩
  obtain ⟨h', a, b, c⟩ := this
  refine ⟨h', ?_, g0.trans (Gr.ofKo b), by simpa using c⟩
  rw [sLc2_ap, fs, fwd_ok, a, lapV_ok]
theorem srcEV_at (xs : List Va) (h : Hs) (i : Nat) : srcEV xs i h = some (xs[i]?.map fun x => .tup [.int (i : Nat), x]) := (rfl)
theorem sEnuT_k (f : Sm (List Va)) (e : En) (h : Hs) : sEnuT f e h = fwd (f e h) fun xs h' => (match xs with
  | [x] => match enT x h' with
    | some s => Rs.ok s h'
    | none => .bad
  | _ => .bad) := (rfl)
theorem enT_str (x : List Nat) (h : Hs) : enT (.str x) h = some (srcEV (x.map fun c => .str [c]), x.length) := (rfl)
end Fw

set_option Elab.async false
set_option linter.all false
set_option maxRecDepth 100000
set_option maxHeartbeats 4000000
set_option autoImplicit false
namespace Dw
theorem sz_even : ∀ f : Fo, sz f % 2 = 0
  | .nil => rfl
  | .node a b => by
    have := sz_even a
    have := sz_even b
    simp only [sz]
    omega
/-- mates are mates of each other, one with an even number, one with an odd one -/
theorem M_inv : ∀ (f : Fo) (p i m : Nat), (M p f)[i]? = some m → ∃ j, m = p + j ∧ (M p f)[j]? = some (p + i) ∧ (i + j) % 2 = 1
  | .nil, p, i, m, h => by simp [M] at h
  | .node a b, p, i, m, h => by
    have la := M_len a (p + 1)
    have ea := sz_even a
    have sh : M p (.node a b) = (p + sz a + 1) :: (M (p + 1) a ++ p :: M (p + sz a + 2) b) := by simp [M]
    rw [sh] at h ⊢
    cases i with
    | zero =>
      simp only [List.getElem?_cons_zero, Option.some.injEq] at h
      refine ⟨sz a + 1, by omega, ?_, by omega⟩
      rw [List.getElem?_cons_succ, List.getElem?_append_right (by omega), la, Nat.sub_self]
      rfl
    | succ i =>
      rw [List.getElem?_cons_succ] at h
      by_cases c : i < sz a
      · rw [List.getElem?_append_left (by omega)] at h
        obtain ⟨j, e1, e2, e3⟩ := M_inv a (p + 1) i m h
        have jl : j < sz a := by
          have := (List.getElem?_eq_some_iff.mp e2).1
          omega
        refine ⟨j + 1, by omega, ?_, by omega⟩
        rw [List.getElem?_cons_succ, List.getElem?_append_left (by omega), e2]
        congr 1
        omega
      · rw [List.getElem?_append_right (by omega), la] at h
        by_cases d : i = sz a
        · subst d
          rw [Nat.sub_self] at h
          simp only [List.getElem?_cons_zero, Option.some.injEq] at h
          refine ⟨0, by omega, ?_, by omega⟩
          rw [List.getElem?_cons_zero]
          congr 1
        · rw [show i - sz a = (i - sz a - 1) + 1 by omega, List.getElem?_cons_succ] at h
          obtain ⟨j, e1, e2, e3⟩ := M_inv b (p + sz a + 2) _ m h
          refine ⟨sz a + 2 + j, by omega, ?_, by omega⟩
          rw [show sz a + 2 + j = (sz a + 1 + j) + 1 by omega, List.getElem?_cons_succ, List.getElem?_append_right (by omega), la, show sz a + 1 + j - sz a = j + 1 by omega, List.getElem?_cons_succ, e2]
          congr 1
          omega
/-! ### rounds -/
/-- mates below N: each the mate of its mate, of the other kind -/
structure Mt (N : Nat) (u : Nat → Nat) : Prop where
  lt : ∀ x, x < N → u x < N
  inv : ∀ x, x < N → u (u x) = x
  par : ∀ x, x < N → (x + u x) % 2 = 1
def mt (f : Fo) (x : Nat) : Nat := (M 0 f)[x]?.getD 0
theorem mt_at {f : Fo} {x : Nat} (h : x < sz f) : (M 0 f)[x]? = some (mt f x) := by
  unfold mt
  rw [List.getElem?_eq_getElem (by rw [M_len]; exact h)]
  rfl
theorem mt_Mt (f : Fo) : Mt (sz f) (mt f) where
  lt x h := by
    have := M_in f 0 (mt f x) (List.mem_of_getElem? (mt_at h))
    omega
  inv x h := by
    obtain ⟨j, e1, e2, _⟩ := M_inv f 0 x _ (mt_at h)
    have : j = mt f x := by omega
    subst this
    unfold mt at e2 ⊢
    rw [e2]
    simp
  par x h := by
    obtain ⟨j, e1, _, e3⟩ := M_inv f 0 x _ (mt_at h)
    omega
/-- going along from a foot, the upper arch first -/
def wk (u l : Nat → Nat) (f : Nat) : Nat → Nat → List Nat
  | 0, _ => []
  | k + 1, x => x :: u x :: (if l (u x) = f then [] else wk u l f k (l (u x)))
def walk (u l : Nat → Nat) (N f : Nat) : List Nat := wk u l f N f
def it2 (u l : Nat → Nat) : Nat → Nat → Nat
  | 0, x => x
  | k + 1, x => it2 u l k (l (u x))
theorem it2_succ (u l : Nat → Nat) : ∀ (k x : Nat), it2 u l (k + 1) x = l (u (it2 u l k x))
  | 0, x => rfl
  | k + 1, x => by
    show it2 u l (k + 1) (l (u x)) = l (u (it2 u l k (l (u x))))
    exact it2_succ u l k _
theorem it2_add (u l : Nat → Nat) (x : Nat) : ∀ (j k : Nat), it2 u l (j + k) x = it2 u l j (it2 u l k x)
  | 0, k => by simp [it2]
  | j + 1, k => by rw [show j + 1 + k = (j + k) + 1 by omega, it2_succ, it2_succ, it2_add u l x j k]
section
variable {N : Nat} {u l : Nat → Nat} (mu : Mt N u) (ml : Mt N l)
include mu ml
theorem it2_lt {f : Nat} (h : f < N) : ∀ k, it2 u l k f < N
  | 0 => h
  | k + 1 => by
    rw [it2_succ]
    exact ml.lt _ (mu.lt _ (it2_lt h k))
theorem it2_par {f : Nat} (h : f < N) : ∀ k, it2 u l k f % 2 = f % 2
  | 0 => rfl
  | k + 1 => by
    rw [it2_succ]
    have x := it2_lt mu ml h k
    have := mu.par _ x
    have := ml.par _ (mu.lt _ x)
    have := it2_par h k
    omega
theorem it2_inj {x y : Nat} (hx : x < N) (hy : y < N) : ∀ k, it2 u l k x = it2 u l k y → x = y
  | 0, e => e
  | k + 1, e => by
    rw [it2_succ, it2_succ] at e
    have a := it2_lt mu ml hx k
    have b := it2_lt mu ml hy k
    have e1 := congrArg l e
    rw [ml.inv _ (mu.lt _ a), ml.inv _ (mu.lt _ b)] at e1
    have e2 := congrArg u e1
    rw [mu.inv _ a, mu.inv _ b] at e2
    exact it2_inj hx hy k e2
end
theorem nodup_le : ∀ (N : Nat) (xs : List Nat), xs.Nodup → (∀ x ∈ xs, x < N) → xs.length ≤ N
  | 0, [], _, _ => by simp
  | 0, x :: xs, _, h => by have := h x (by simp); omega
  | N + 1, xs, nd, h => by
    have l1 := nodup_le N (xs.erase N) (nd.erase N) (fun x m => by
      have m2 := (nd.mem_erase_iff.mp m)
      have := h x m2.2
      omega)
    by_cases c : N ∈ xs
    · rw [List.length_erase_of_mem c] at l1
      omega
    · rw [List.erase_of_not_mem c] at l1
      omega
section
variable {N : Nat} {u l : Nat → Nat} (mu : Mt N u) (ml : Mt N l)
include mu ml
/-- who goes along comes back -/
theorem back {f : Nat} (h : f < N) : ∃ k, 0 < k ∧ k ≤ N ∧ it2 u l k f = f := by
  refine Classical.byContradiction fun no => ?_
  have no : ∀ k, 0 < k → k ≤ N → it2 u l k f ≠ f := fun k h0 h1 e => no ⟨k, h0, h1, e⟩
  have nd : ((List.range (N + 1)).map fun k => it2 u l k f).Nodup := by
    rw [List.nodup_iff_pairwise_ne, List.pairwise_map]
    refine (List.pairwise_lt_range (n := N + 1)).imp_of_mem ?_
    intro a b ha hb hab e
    have hb := List.mem_range.mp hb
    rw [show b = a + (b - a) by omega, it2_add] at e
    have e2 := it2_inj mu ml h (it2_lt mu ml h (b - a)) a e
    exact no (b - a) (by omega) (by omega) e2.symm
  have := nodup_le N _ nd (fun x m => by
    obtain ⟨k, _, rfl⟩ := List.mem_map.mp m
    exact it2_lt mu ml h k)
  simp at this
  omega
/-- the first time -/
theorem per {f : Nat} (h : f < N) : ∃ k, 0 < k ∧ k ≤ N ∧ it2 u l k f = f ∧ ∀ j, 0 < j → j < k → it2 u l j f ≠ f := by
  obtain ⟨k, h0, h1, h2⟩ := back mu ml h
  induction k using Nat.strongRecOn with
  | ind k ih =>
    by_cases c : ∃ j, 0 < j ∧ j < k ∧ it2 u l j f = f
    · obtain ⟨j, a, b, d⟩ := c
      exact ih j b a (by omega) d
    · exact ⟨k, h0, h1, h2, fun j a b d => c ⟨j, a, b, d⟩⟩
/-- the feet of a round as they are met -/
def fts (u l : Nat → Nat) (f k : Nat) : List Nat := ((List.range k).map fun j => [it2 u l j f, u (it2 u l j f)]).flatten
omit mu ml in
theorem fts_succ (f k : Nat) : fts u l f (k + 1) = fts u l f k ++ [it2 u l k f, u (it2 u l k f)] := by
  unfold fts
  rw [List.range_succ]
  simp
omit mu ml in
theorem wk_fts (f : Nat) : ∀ (j k x m : Nat), x = it2 u l j f → k + j = m → (∀ i, j < i → i < m → it2 u l i f ≠ f) → it2 u l m f = f → 0 < k → ∀ F, k ≤ F → wk u l f F x = ((List.range' j k).map fun i => [it2 u l i f, u (it2 u l i f)]).flatten := by
  intro j k
  induction k generalizing j with
  | zero => intro x m _ _ _ _ h; omega
  | succ k ih =>
    intro x m ex em hno hm _ F hF
    cases F with
    | zero => omega
    | succ F =>
      subst ex
      rw [wk, List.range'_succ, List.map_cons, List.flatten_cons]
      have e1 : l (u (it2 u l j f)) = it2 u l (j + 1) f := (it2_succ u l j f).symm
      rw [e1]
      cases k with
      | zero =>
        have : j + 1 = m := by omega
        rw [this, if_pos hm]
        rfl
      | succ k =>
        rw [if_neg (hno (j + 1) (by omega) (by omega)), ih (j + 1) _ m rfl (by omega) (fun i a b => hno i (by omega) b) hm (by omega) F (by omega)]
        rfl
theorem walk_fts {f : Nat} (h : f < N) : ∃ k, 0 < k ∧ k ≤ N ∧ it2 u l k f = f ∧ (∀ j, 0 < j → j < k → it2 u l j f ≠ f) ∧ walk u l N f = fts u l f k := by
  obtain ⟨k, h0, h1, h2, h3⟩ := per mu ml h
  refine ⟨k, h0, h1, h2, h3, ?_⟩
  unfold walk
  rw [wk_fts f 0 k f k rfl (by omega) (fun i a b => h3 i a b) h2 h0 N h1]
  unfold fts
  rw [List.range_eq_range']
/-- among the feet met so far there is the next one only when the round is whole -/
theorem fts_mem {f : Nat} (h : f < N) {k : Nat} (hk : ∀ j, 0 < j → j < k → it2 u l j f ≠ f) {j : Nat} (hj : j < k) : it2 u l j f ∉ fts u l f j := by
  intro m
  unfold fts at m
  rw [List.mem_flatten] at m
  obtain ⟨ys, m1, m2⟩ := m
  obtain ⟨i, hi, rfl⟩ := List.mem_map.mp m1
  have hi := List.mem_range.mp hi
  have pj := it2_par mu ml h j
  have pi := it2_par mu ml h i
  have xi := it2_lt mu ml h i
  rcases List.mem_cons.mp m2 with e | m2
  · rw [show j = i + (j - i) by omega, it2_add] at e
    have := it2_inj mu ml (it2_lt mu ml h (j - i)) h i e
    exact hk (j - i) (by omega) (by omega) this
  · have e := List.mem_singleton.mp m2
    have := mu.par _ xi
    omega
end
/-! ### all rounds, foot by foot -/
def insN (x : Nat) : List Nat → List Nat
  | [] => [x]
  | y :: ys => if x ≤ y then x :: y :: ys else y :: insN x ys
def srtN : List Nat → List Nat
  | [] => []
  | x :: xs => insN x (srtN xs)
def rgo (u l : Nat → Nat) (N : Nat) : List Nat → List Nat → List (List Nat)
  | [], _ => []
  | f :: fs, met => if met.contains f = true then rgo u l N fs met else srtN (walk u l N f) :: rgo u l N fs (met ++ walk u l N f)
/-- the rounds of two rows -/
def rds (u l : Nat → Nat) (N : Nat) : List (List Nat) := rgo u l N (List.range N) []
end Dw

set_option Elab.async false
set_option linter.all false
set_option maxRecDepth 100000
set_option maxHeartbeats 4000000
set_option autoImplicit false
namespace Pg
open PySem PySem.Spec L2 Fw
open PyProof.Rows hiding St
theorem index_ok {s : List Nat} {h : Hs} (q : Dw.D 0 s) (l : s.length ≤ 24) : G_index_of_row [.str s] h = .ok (.int (Dw.idx 0 s : Nat)) h := by
  refine pure_of rfl (h' := []) ?_ rfl
  have par := (Dw.D_le s 0 q).2
  simp [runB_ap, b_index_of_row, need_row_ok q l, show s.length ≤ 16777216 by omega, kFdv]
  generalize hL : loop _ _ _ _ _ _ = L
  obtain ⟨e', h', rfl, o, c, x, z, rfl, rfl, a1, a0, a2, a3, d⟩ := loop_gen hL (fun i e h => ∃ (o c x : Nat) (z : Option Va), e = [some (.str s), some (.int (x : Nat)), some (.int (o : Nat)), some (.int (c : Nat)), z] ∧ h = [] ∧ o ≤ c ∧ c ≤ 12 ∧ o + c + i = s.length ∧ x + Dw.idx (c - o) (s.drop i) = Dw.idx 0 s ∧ Dw.D (c - o) (s.drop i)) ⟨s.length / 2, s.length / 2, 0, none, by simp, rfl, by omega, by omega, by omega, by simp, by simpa using q⟩ (by
      rintro i e h hi ⟨o, c, x, z, rfl, rfl, a1, a0, a2, a3, d⟩
      obtain ⟨y, e1, e2⟩ := drop_cons hi
      rw [e2] at d a3
      have le := (Dw.D_le _ _ d).1
      rcases d with ⟨rfl, d⟩ | ⟨rfl, g, e3, d⟩
      · have o0 : 0 < o := by
          have := (Dw.D_le _ _ d).1
          simp at this
          omega
        refine ⟨.str [40], _, _, by simp [e1], ?_, o - 1, c, x, some (.str [40]), rfl, rfl, by omega, by omega, by omega, ?_, ?_⟩
        · simp [stp]
          omega
        · rw [Dw.idx_o] at a3
          rw [show c - (o - 1) = c - o + 1 by omega]
          exact a3
        · rw [show c - (o - 1) = c - o + 1 by omega]
          exact d
      · refine ⟨.str [41], _, _, by simp [e1], ?_, o, c - 1, x + Dw.W (o + c - 1) (c - o + 1), some (.str [41]), rfl, rfl, by omega, by omega, by omega, ?_, ?_⟩
        · simp [stp, ce_pred a1 (a0) (show 0 < c by omega)]
          omega
        · rw [Dw.idx_c] at a3
          rw [show c - 1 - o = c - o - 1 by omega, ← a3, show (s.drop (i + 1)).length = o + c - 1 by simp; omega]
          omega
        · rw [show c - 1 - o = g by omega]
          exact d) (by
      rintro e h ⟨o, c, x, z, rfl, rfl, a1, a0, a2, a3, d⟩
      simp)
  simp at a3
  have : o = 0 := by omega
  have : c = 0 := by omega
  subst o c
  simp [Dw.idx] at a3
  simp [a3]
theorem nth_ok {n i : Nat} {h : Hs} (q : n ≤ 12) (hi : i < Dw.W (2 * n) 0) : G_nth_row [.int n, .int i] h = .ok (.str (Dw.nth (2 * n) 0 i)) h := by
  have nl := Dw.nth_len (2 * n) 0 i
  suffices hh : ∃ h', R_nth_row [.int n, .int i] [] = .ok (.str (Dw.nth (2 * n) 0 i)) h' by
    obtain ⟨h', hh⟩ := hh
    exact pure_of rfl hh rfl
  simp [runB_ap, b_nth_row, need_number_ok (a := 0) (b := 12) (i := (n : Int)) (by omega) (by omega), count_rows_ok q, is_within_ok (i := (i : Int)) (a := 0) (b := (Dw.W (2 * n) 0 : Nat) - 1) (by omega) (by omega), newL]
  generalize hL : whl _ _ _ _ _ = L
  obtain ⟨e', h', rfl, e6, a, b, c, rfl, rfl⟩ := whl_gen hL (fun k e h => ∃ (o c j : Nat) (pre : List Nat) (z : Option Va), e = [some (.int n), some (.int i), some (.loc 0), some (.int (o : Nat)), some (.int (c : Nat)), some (.int (j : Nat)), z] ∧ h = [.lst (pre.map fun c => .str [c])] ∧ o ≤ c ∧ c ≤ 12 ∧ o + c = k ∧ j < Dw.W k (c - o) ∧ pre ++ Dw.nth k (c - o) j = Dw.nth (2 * n) 0 i)
    (fun e h => ∃ (x : Option Va) (a b c : Option Va), e = [some (.int n), some (.int i), some (.loc 0), a, b, c, x] ∧ h = [.lst ((Dw.nth (2 * n) 0 i).map fun c => .str [c])]) (2 * n) (by omega) ⟨n, n, i, [], none, rfl, rfl, by omega, by omega, by omega, by simpa using hi, by simp⟩ (by
      rintro k e h ⟨o, c, j, pre, z, rfl, rfl, a1, a2, a3, a4, a5⟩
      have c0 : 0 < c := by omega
      have pl : pre.length < 16777216 := by
        have := congrArg List.length a5
        simp [Dw.nth_len] at this
        omega
      by_cases q2 : j < Dw.W k (c - o + 1)
      · have o0 : 0 < o := by
          rcases Nat.eq_zero_or_pos o with rfl | o0
          · rw [W_zero _ _ (by omega)] at q2; omega
          · exact o0
        refine ⟨[.lst (pre.map fun c => .str [c])], _, _, ?_, ?_, o - 1, c, j, pre ++ [40], some (.int (Dw.W (o + c - 1) (c - o + 1) : Nat)), rfl, rfl, by omega, by omega, by omega, ?_, ?_⟩
        · simp [c0]
        · simp [ce_pred a1 a2 c0, show o + c - 1 = k by omega, q2, tyA, kApp, pl]
          omega
        · rw [show c - (o - 1) = c - o + 1 by omega]; exact q2
        · rw [show c - (o - 1) = c - o + 1 by omega]
          rw [Dw.nth, if_pos q2] at a5
          rw [← a5]; simp
      · have oc : o < c := by
          have : ¬ o = c := by
            rintro rfl
            rw [Nat.sub_self] at a4 q2
            exact q2 (by simpa [Dw.W] using a4)
          omega
        refine ⟨[.lst (pre.map fun c => .str [c])], _, _, ?_, ?_, o, c - 1, j - Dw.W k (c - o + 1), pre ++ [41], some (.int (Dw.W (o + c - 1) (c - o + 1) : Nat)), rfl, rfl, by omega, by omega, by omega, ?_, ?_⟩
        · simp [c0]
        · simp [ce_pred a1 a2 c0, show o + c - 1 = k by omega, q2, tyA, kApp, pl]
          omega
        · obtain ⟨g, hg⟩ : ∃ g, c - o = g + 1 := ⟨c - o - 1, by omega⟩
          rw [hg] at a4 q2 ⊢
          rw [show c - 1 - o = g by omega]
          simp only [Dw.W] at a4
          have e : g + 1 + 1 = g + 2 := rfl
          rw [e] at q2 ⊢
          omega
        · rw [Dw.nth, if_neg q2] at a5
          rw [← a5, show c - 1 - o = c - o - 1 by omega]; simp) (by
      rintro e h ⟨o, c, j, pre, z, rfl, rfl, a1, a2, a3, a4, a5⟩
      have : c = 0 := by omega
      have : o = 0 := by omega
      subst o c
      refine ⟨[.lst (pre.map fun c => .str [c])], by simp, z, _, _, _, rfl, ?_⟩
      rw [← a5]; simp [Dw.nth])
  simp [tyA]
  rw [join_one (s := Dw.nth (2 * n) 0 i) rfl (by omega)]
  simp
theorem all_rows_ok {n : Nat} {h : Hs} (q : n ≤ 7) : G_all_rows [.int n] h = .ok (.tup ((Dw.all (2 * n) 0).map Va.str)) h := by
  have wl : Dw.W (2 * n) 0 ≤ 429 := by
    have : ∀ n ≤ 7, (Dw.wrow 50 (2 * n))[0]?.getD 0 ≤ 429 := by decide +kernel
    have := this n q
    rw [Dw.wrow_at 50 _ 0 (by omega) (by omega)] at this
    exact this
  suffices hh : ∃ h', R_all_rows [.int n] [] = .ok (.tup ((Dw.all (2 * n) 0).map Va.str)) h' by
    obtain ⟨h', hh⟩ := hh
    refine pure_of rfl hh ?_
    simp only [lf]
    exact lfL_map (fun _ => rfl) _
  have rg : ∀ e1, sRg1 (sCons (sCall G_count_rows 1 [0] (sCons (sVar 0) sNil)) sNil) [some (.int n), e1] [] = .ok (srcR 0 (Dw.W (2 * n) 0), Dw.W (2 * n) 0) [] := fun _ => rg1_ok (by simp [count_rows_ok (show n ≤ 12 by omega)]) (by omega)
  simp [runB_ap, b_all_rows, need_number_ok (i := (n : Int)) (a := 0) (b := 7) (by omega) (by omega), rg]
  have : ∃ h', lcl (srcR 0 (Dw.W (2 * n) 0)) (gNm 1) tru (sCall G_nth_row 2 [0, 1] (sCons (sVar 0) (sCons (sVar 1) sNil))) (Dw.W (2 * n) 0) 0 (wipeE [some (.int n), none] [1]) [] = .ok ((List.range (Dw.W (2 * n) 0)).map fun i => Va.str (Dw.nth (2 * n) 0 i)) h' ∧ h' = [] := by
    refine lcl_inv _ (by simp) (fun i h => h = []) ?_ ?_ rfl
    · rintro i h hi rfl
      refine ⟨.int (i : Nat), _, _, _, _, .str (Dw.nth (2 * n) 0 i), by simp [hi], rfl, rfl, ?_, by simp [hi], rfl⟩
      simp [wipeE, nth_ok (show n ≤ 12 by omega) hi]
    · rintro h rfl
      simp
  obtain ⟨h', e, rfl⟩ := this
  rw [e]
  simp only [lst_, List.nil_append]
  rw [new_ok (by simp; omega)]
  simp [kTpl, lsA]
  rw [← Dw.all_eq, List.map_map]
  rfl
end Pg

set_option Elab.async false
set_option linter.all false
set_option maxRecDepth 100000
set_option maxHeartbeats 4000000
set_option autoImplicit false
namespace Fw
open PySem PySem.Spec L2
open PyProof.Rows hiding St
open Pg (vN)
theorem insN_int (x : Nat) : ∀ ys : List Nat, insI (x : Int) (ys.map fun n => ((n : Nat) : Int)) = (Dw.insN x ys).map fun n => ((n : Nat) : Int)
  | [] => rfl
  | y :: ys => by
    simp only [List.map_cons, insI, Dw.insN]
    by_cases c : x ≤ y
    · rw [if_pos (by omega), if_pos c]; rfl
    · rw [if_neg (by omega), if_neg c, insN_int x ys]; rfl
theorem srtN_int : ∀ ys : List Nat, srtI (ys.map fun n => ((n : Nat) : Int)) = (Dw.srtN ys).map fun n => ((n : Nat) : Int)
  | [] => rfl
  | y :: ys => by
    simp only [List.map_cons, srtI, Dw.srtN]
    rw [srtN_int ys, insN_int]
theorem insN_len (x : Nat) : ∀ ys : List Nat, (Dw.insN x ys).length = ys.length + 1
  | [] => rfl
  | y :: ys => by
    unfold Dw.insN
    split
    · rfl
    · simp [insN_len x ys]
theorem srtN_len : ∀ ys : List Nat, (Dw.srtN ys).length = ys.length
  | [] => rfl
  | y :: ys => by rw [Dw.srtN, insN_len, srtN_len ys]; rfl
/-- sorted of a list of numbers -/
theorem srt_N {n : Nat} {xs : List Nat} {h : Hs} (e : h[n]? = some (.lst (xs.map vN))) (l : xs.length ≤ 16777216) : kSrtI [.loc n] h = .ok (.loc h.length) (h ++ [.lst ((Dw.srtN xs).map vN)]) := by
  have e2 : (lsA (.loc n) h).bind (mapO asI) = some (xs.map fun n => ((n : Nat) : Int)) := by
    simp only [lsA, e, Option.bind_some]
    exact mapO_some (f := asI) (g := vN) (k := fun n => ((n : Nat) : Int)) (fun _ => rfl) _
  simp only [kSrtI, e2]
  rw [srtN_int, show ((Dw.srtN xs).map fun n => ((n : Nat) : Int)).map Va.int = (Dw.srtN xs).map vN by rw [List.map_map]; rfl]
  exact new_ok (by rw [List.length_map, srtN_len]; exact l)
end Fw
namespace Pg
open PySem PySem.Spec L2 Fw
open PyProof.Rows hiding St
open Dw (Mt it2 fts walk srtN rgo rds mt)
theorem q_walk_from : G_walk_from = R_walk_from := by unfold G_walk_from; rfl
theorem q__rounds_of_mates : G__rounds_of_mates = R__rounds_of_mates := by unfold G__rounds_of_mates; rfl
theorem fts_len (u l : Nat → Nat) (f k : Nat) : (fts u l f k).length = 2 * k := by
  induction k with
  | zero => rfl
  | succ k ih =>
    rw [Dw.fts_succ, List.length_append, ih]
    simp
    omega
theorem walk_from_ok {N : Nat} {u l : Nat → Nat} (mu : Mt N u) (ml : Mt N l) {us ls : List Nat} {a b : Nat} {h : Hs} (hN : N ≤ 24) (ea : h[a]? = some (.lst (us.map vN))) (eb : h[b]? = some (.lst (ls.map vN)))
    (hu : ∀ x, x < N → us[x]? = some (u x)) (hl : ∀ x, x < N → ls[x]? = some (l x)) {f : Nat} (hf : f < N) :
    G_walk_from [.loc a, .loc b, .int (f : Nat)] h = .ok (.loc h.length) (h ++ [.lst ((walk u l N f).map vN)]) := by
  obtain ⟨k, k0, k1, k2, k3, wk⟩ := Dw.walk_fts mu ml hf
  rw [wk, q_walk_from]
  show fin (b_walk_from [some (.loc a), some (.loc b), some (.int (f : Nat)), none, none, none] h) = _
  unfold b_walk_from
  (rw [Fw.seq_ap]; conv => { pattern (Fw.thn _ _); arg 1; simp (disch := first | omega | exact rfl) only [EV0, EV1, EV2, EV3, List.set_cons_zero, List.set_cons_succ, List.length_cons, List.length_nil, List.length_map, Nat.zero_add, List.cons_append, List.nil_append, and_self, and_true, true_and, and_false, false_and, if_true, if_false, decide_true, decide_false, decide_eq_true_eq, Bool.not_true, Bool.not_false, Bool.false_eq_true, Bool.true_eq_false, Bool.not_eq_true, eq_self, not_true_eq_false, not_false_eq_true, List.cons.injEq, Nat.reduceAdd, Nat.reduceLeDiff, Nat.reduceEqDiff, Nat.reduceSub, Nat.reduceMul, ↓reduceIte, reduceCtorEq, new0] }; rw [Fw.thn_nx])
  (rw [Fw.seq_ap]; conv => { pattern (Fw.thn _ _); arg 1; simp (disch := first | omega | exact rfl) only [EV0, EV1, EV2, EV3, List.set_cons_zero, List.set_cons_succ, List.length_cons, List.length_nil, List.length_map, Nat.zero_add, List.cons_append, List.nil_append, and_self, and_true, true_and, and_false, false_and, if_true, if_false, decide_true, decide_false, decide_eq_true_eq, Bool.not_true, Bool.not_false, Bool.false_eq_true, Bool.true_eq_false, Bool.not_eq_true, eq_self, not_true_eq_false, not_false_eq_true, List.cons.injEq, Nat.reduceAdd, Nat.reduceLeDiff, Nat.reduceEqDiff, Nat.reduceSub, Nat.reduceMul, ↓reduceIte, reduceCtorEq] }; rw [Fw.thn_nx])
  rw [seq_ap]
  generalize hL : whl _ _ _ _ _ = L
  have al := (List.getElem?_eq_some_iff.mp ea).1
  have bl := (List.getElem?_eq_some_iff.mp eb).1
  obtain ⟨e', h', rfl, ⟨z5, rfl⟩, rfl⟩ := whl_any hL (fun n en hx => ∃ j z5, j + n = k ∧ en = [some (.loc a), some (.loc b), some (.int (f : Nat)), some (.loc h.length), some (.int (it2 u l j f : Nat)), z5] ∧ hx = h ++ [.lst ((fts u l f j).map vN)])
    (fun en hx => (∃ z5, en = [some (.loc a), some (.loc b), some (.int (f : Nat)), some (.loc h.length), some (.int (f : Nat)), z5]) ∧ hx = h ++ [.lst ((fts u l f k).map vN)]) k (by omega) ⟨0, none, by omega, rfl, rfl⟩ (by
    rintro n en hx ⟨j, z5, jn, rfl, rfl⟩
    have tr : trA (.loc h.length) (h ++ [Ob.lst ((fts u l f j).map vN)]) = some (decide (0 < j)) := by
      have e : (h ++ [Ob.lst ((fts u l f j).map vN)])[h.length]? = some (.lst ((fts u l f j).map vN)) := last_at h _
      have fl := fts_len u l f j
      simp only [trA, e]
      congr 1
      cases q : (fts u l f j).map vN with
      | nil =>
        have : (fts u l f j).length = 0 := by rw [← List.length_map (f := vN), q]; rfl
        simp
        omega
      | cons x r =>
        have : (fts u l f j).length = r.length + 1 := by rw [← List.length_map (f := vN), q]; rfl
        simp
        omega
    have ij := Dw.it2_lt mu ml hf j
    by_cases c : n = 0
    · subst c
      have jk : j = k := by omega
      subst jk
      refine .inl ⟨_, ?_, ⟨z5, by rw [k2]⟩, rfl⟩
      rw [k2]
      simp (disch := first | omega | exact rfl) only [EV0, EV1, EV2, EV3, List.set_cons_zero, List.set_cons_succ, List.length_cons, List.length_nil, List.length_map, Nat.zero_add, List.cons_append, List.nil_append, and_self, and_true, true_and, and_false, false_and, if_true, if_false, decide_true, decide_false, decide_eq_true_eq, Bool.not_true, Bool.not_false, Bool.false_eq_true, Bool.true_eq_false, Bool.not_eq_true, eq_self, not_true_eq_false, not_false_eq_true, List.cons.injEq, Nat.reduceAdd, Nat.reduceLeDiff, Nat.reduceEqDiff, Nat.reduceSub, Nat.reduceMul, ↓reduceIte, reduceCtorEq, tr, k0]
    · obtain ⟨n, rfl⟩ : ∃ n', n = n' + 1 := ⟨n - 1, by omega⟩
      have i1 : kIx (.loc a) (.int (it2 u l j f : Nat)) (h ++ [Ob.lst ((fts u l f j).map vN)]) = .ok (.int (u (it2 u l j f) : Nat)) (h ++ [Ob.lst ((fts u l f j).map vN)]) := ix_loc (by rw [List.getElem?_append_left al]; exact ea) (by rw [List.getElem?_map, hu _ ij]; rfl)
      have i2 : ∀ o, kIx (.loc b) (.int (u (it2 u l j f) : Nat)) (h ++ [o]) = .ok (.int (l (u (it2 u l j f)) : Nat)) (h ++ [o]) := fun o => ix_loc (by rw [List.getElem?_append_left bl]; exact eb) (by rw [List.getElem?_map, hl _ (mu.lt _ ij)]; rfl)
      have fl := fts_len u l f j
      have ty : ∀ xs, tyA "list" (.loc h.length) (h ++ [Ob.lst xs]) = true := fun xs => ty_lst (last_at h _)
      have ap := fun (xs : List Va) (y : Va) (l : xs.length < 16777216) => app_last (h := h) (xs := xs) (y := y) l
      have a1 := ap ((fts u l f j).map vN) (.int (it2 u l j f : Nat)) (by rw [List.length_map]; omega)
      have a2 := ap ((fts u l f j).map vN ++ [.int (it2 u l j f : Nat)]) (.int (u (it2 u l j f) : Nat)) (by rw [List.length_append, List.length_map]; simp; omega)
      have t : sOr (sNot (sTru (sVar 3))) (sBl (s2 kNe (sVar 4) (sVar 2))) [some (.loc a), some (.loc b), some (.int (f : Nat)), some (.loc h.length), some (.int (it2 u l j f : Nat)), z5] (h ++ [Ob.lst ((fts u l f j).map vN)]) = .ok true (h ++ [Ob.lst ((fts u l f j).map vN)]) := by
        by_cases j0 : 0 < j
        · have ne := k3 j j0 (by omega)
          simp (disch := first | omega | exact rfl) only [EV0, EV1, EV2, EV3, List.set_cons_zero, List.set_cons_succ, List.length_cons, List.length_nil, List.length_map, Nat.zero_add, List.cons_append, List.nil_append, and_self, and_true, true_and, and_false, false_and, if_true, if_false, decide_true, decide_false, decide_eq_true_eq, Bool.not_true, Bool.not_false, Bool.false_eq_true, Bool.true_eq_false, Bool.not_eq_true, eq_self, not_true_eq_false, not_false_eq_true, List.cons.injEq, Nat.reduceAdd, Nat.reduceLeDiff, Nat.reduceEqDiff, Nat.reduceSub, Nat.reduceMul, ↓reduceIte, reduceCtorEq, tr, j0, ne]
        · simp (disch := first | omega | exact rfl) only [EV0, EV1, EV2, EV3, List.set_cons_zero, List.set_cons_succ, List.length_cons, List.length_nil, List.length_map, Nat.zero_add, List.cons_append, List.nil_append, and_self, and_true, true_and, and_false, false_and, if_true, if_false, decide_true, decide_false, decide_eq_true_eq, Bool.not_true, Bool.not_false, Bool.false_eq_true, Bool.true_eq_false, Bool.not_eq_true, eq_self, not_true_eq_false, not_false_eq_true, List.cons.injEq, Nat.reduceAdd, Nat.reduceLeDiff, Nat.reduceEqDiff, Nat.reduceSub, Nat.reduceMul, ↓reduceIte, reduceCtorEq, tr, j0]
      refine .inr ⟨n, _, [some (.loc a), some (.loc b), some (.int (f : Nat)), some (.loc h.length), some (.int (it2 u l (j + 1) f : Nat)), some (.int (u (it2 u l j f) : Nat))], h ++ [.lst ((fts u l f (j + 1)).map vN)], rfl, t, ?_, j + 1, _, by omega, rfl, rfl⟩
      rw [Dw.it2_succ, Dw.fts_succ, List.map_append]
      simp (disch := first | omega | exact rfl) only [EV0, EV1, EV2, EV3, List.set_cons_zero, List.set_cons_succ, List.length_cons, List.length_nil, List.length_map, Nat.zero_add, List.cons_append, List.nil_append, and_self, and_true, true_and, and_false, false_and, if_true, if_false, decide_true, decide_false, decide_eq_true_eq, Bool.not_true, Bool.not_false, Bool.false_eq_true, Bool.true_eq_false, Bool.not_eq_true, eq_self, not_true_eq_false, not_false_eq_true, List.cons.injEq, Nat.reduceAdd, Nat.reduceLeDiff, Nat.reduceEqDiff, Nat.reduceSub, Nat.reduceMul, ↓reduceIte, reduceCtorEq, seq_ap, i1, ty, a1, a2, i2]
      simp [vN])
  rw [thn_nx]
  simp (disch := first | omega | exact rfl) only [EV0, EV1, EV2, EV3, List.set_cons_zero, List.set_cons_succ, List.length_cons, List.length_nil, List.length_map, Nat.zero_add, List.cons_append, List.nil_append, and_self, and_true, true_and, and_false, false_and, if_true, if_false, decide_true, decide_false, decide_eq_true_eq, Bool.not_true, Bool.not_false, Bool.false_eq_true, Bool.true_eq_false, Bool.not_eq_true, eq_self, not_true_eq_false, not_false_eq_true, List.cons.injEq, Nat.reduceAdd, Nat.reduceLeDiff, Nat.reduceEqDiff, Nat.reduceSub, Nat.reduceMul, ↓reduceIte, reduceCtorEq]
end Pg

set_option Elab.async false
set_option linter.all false
set_option maxRecDepth 100000
set_option maxHeartbeats 4000000
set_option autoImplicit false
namespace Fw
open PySem PySem.Spec L2
open PyProof.Rows hiding St
theorem set_at {h : Hs} {n : Nat} {o o' : Ob} (e : h[n]? = some o) : (h.set n o')[n]? = some o' := by
  rw [List.getElem?_set_self (List.getElem?_eq_some_iff.mp e).1]
theorem set_ne {h : Hs} {n m : Nat} {o o' : Ob} (ne : n ≠ m) (e : h[m]? = some o) : (h.set n o')[m]? = some o := by
  rw [List.getElem?_set_ne ne]
  exact e
theorem app_at {h r : Hs} {n : Nat} {o : Ob} (e : h[n]? = some o) : (h ++ r)[n]? = some o := by
  rw [List.getElem?_append_left (List.getElem?_eq_some_iff.mp e).1]
  exact e
theorem ks_at {n i : Nat} {xs : List Va} {y : Va} {h : Hs} (e : h[n]? = some (.lst xs)) (l : i < xs.length) : kSet (.loc n) (.int (i : Nat)) y h = some (h.set n (.lst (xs.set i y))) := by
  have : ixN xs.length (i : Int) = some i := by
    unfold ixN
    simp [l]
  simp only [kSet, e, this, Option.map_some]
end Fw
namespace Pg
open PySem PySem.Spec L2 Fw
open PyProof.Rows hiding St
open Dw (Mt it2 fts walk srtN rgo rds mt)
def vT (l : List Nat) : Va := .tup (l.map vN)
def fl (met : List Nat) (x : Nat) : Va := .bl (met.contains x)
theorem mul_rep {n N : Nat} {x : Va} {h : Hs} (e : h[n]? = some (.lst [x])) (l : N ≤ 1000000) : kMul (.loc n) (.int (N : Nat)) h = .ok (.loc h.length) (h ++ [.lst (List.replicate N x)]) := by
  simp only [kMul, e]
  rw [if_pos ⟨by omega, by omega, by simp; omega⟩, Int.toNat_natCast, flat_rep]
  exact new_ok (by simp; omega)
theorem walk_lt {N : Nat} {u l : Nat → Nat} (mu : Mt N u) (ml : Mt N l) {f : Nat} (hf : f < N) : ∀ x ∈ walk u l N f, x < N := by
  obtain ⟨k, k0, k1, k2, k3, wk⟩ := Dw.walk_fts mu ml hf
  rw [wk]
  intro x m
  unfold fts at m
  rw [List.mem_flatten] at m
  obtain ⟨ys, m1, m2⟩ := m
  obtain ⟨i, _, rfl⟩ := List.mem_map.mp m1
  have xi := Dw.it2_lt mu ml hf i
  rcases List.mem_cons.mp m2 with rfl | m2
  · exact xi
  · rw [List.mem_singleton.mp m2]
    exact mu.lt _ xi
theorem walk_len {N : Nat} {u l : Nat → Nat} (mu : Mt N u) (ml : Mt N l) {f : Nat} (hf : f < N) : (walk u l N f).length ≤ 2 * N := by
  obtain ⟨k, k0, k1, k2, k3, wk⟩ := Dw.walk_fts mu ml hf
  rw [wk, fts_len]
  omega
theorem insN_mem (x y : Nat) : ∀ ys : List Nat, y ∈ Dw.insN x ys ↔ y = x ∨ y ∈ ys
  | [] => by simp [Dw.insN]
  | z :: ys => by
    unfold Dw.insN
    split
    · simp
    · simp only [List.mem_cons, insN_mem x y ys]
      constructor <;> (intro h; rcases h with h | h | h <;> simp [h])
theorem srtN_mem (y : Nat) : ∀ ys : List Nat, y ∈ srtN ys ↔ y ∈ ys
  | [] => by simp [Dw.srtN]
  | z :: ys => by rw [Dw.srtN, insN_mem, srtN_mem y ys]; simp
theorem rounds_of_mates_ok {N : Nat} {u l : Nat → Nat} (mu : Mt N u) (ml : Mt N l) {us ls : List Nat} {a b : Nat} {h : Hs} (hN : N ≤ 24) (ea : h[a]? = some (.lst (us.map vN))) (eb : h[b]? = some (.lst (ls.map vN)))
    (lu : us.length = N) (hu : ∀ x, x < N → us[x]? = some (u x)) (hl : ∀ x, x < N → ls[x]? = some (l x)) :
    ∃ h', G__rounds_of_mates [.loc a, .loc b] h = .ok (.loc h.length) h' ∧ h'[h.length]? = some (.lst ((rds u l N).map vT)) ∧ ∀ (i : Nat) (o : Ob), h[i]? = some o → h'[i]? = some o := by
  rw [q__rounds_of_mates]
  show ∃ h', fin (b__rounds_of_mates [some (.loc a), some (.loc b), none, none, none, none, none] h) = _ ∧ _
  unfold b__rounds_of_mates
  have al := (List.getElem?_eq_some_iff.mp ea).1
  have bl := (List.getElem?_eq_some_iff.mp eb).1
  (rw [Fw.seq_ap]; conv => { pattern (Fw.thn _ _); arg 1; simp (disch := first | omega | exact rfl) only [EV0, EV1, EV2, EV3, List.set_cons_zero, List.set_cons_succ, List.length_cons, List.length_nil, List.length_map, Nat.zero_add, List.cons_append, List.nil_append, and_self, and_true, true_and, and_false, false_and, if_true, if_false, decide_true, decide_false, decide_eq_true_eq, Bool.not_true, Bool.not_false, Bool.false_eq_true, Bool.true_eq_false, Bool.not_eq_true, eq_self, not_true_eq_false, not_false_eq_true, List.cons.injEq, Nat.reduceAdd, Nat.reduceLeDiff, Nat.reduceEqDiff, Nat.reduceSub, Nat.reduceMul, ↓reduceIte, reduceCtorEq, new0] }; rw [Fw.thn_nx])
  have l1 := ln_loc (app_at (r := [Ob.lst []] ++ [Ob.lst [Va.bl false]]) ea)
  rw [List.length_map, lu, ← List.append_assoc] at l1
  have m1 := mul_rep (N := N) (last_at (h ++ [Ob.lst []]) (.lst [Va.bl false])) (by omega)
  (rw [Fw.seq_ap]; conv => { pattern (Fw.thn _ _); arg 1; simp (disch := first | omega | exact rfl) only [EV0, EV1, EV2, EV3, List.set_cons_zero, List.set_cons_succ, List.length_cons, List.length_nil, List.length_map, Nat.zero_add, List.cons_append, List.nil_append, and_self, and_true, true_and, and_false, false_and, if_true, if_false, decide_true, decide_false, decide_eq_true_eq, Bool.not_true, Bool.not_false, Bool.false_eq_true, Bool.true_eq_false, Bool.not_eq_true, eq_self, not_true_eq_false, not_false_eq_true, List.cons.injEq, Nat.reduceAdd, Nat.reduceLeDiff, Nat.reduceEqDiff, Nat.reduceSub, Nat.reduceMul, ↓reduceIte, reduceCtorEq, new1, l1, m1] }; rw [Fw.thn_nx])
  generalize hF : h.length = F at *
  generalize hM : (h ++ [Ob.lst []] ++ [Ob.lst [Va.bl false]]).length = M at *
  have hMF : M = F + 2 := by rw [← hM, ← hF]; simp
  generalize hH : h ++ [Ob.lst []] ++ [Ob.lst [Va.bl false]] ++ [Ob.lst (List.replicate N (Va.bl false))] = H at *
  have keep0 : ∀ (i : Nat) (o : Ob), h[i]? = some o → H[i]? = some o := fun i o e => by rw [← hH]; exact app_at (app_at (app_at e))
  have HF : H[F]? = some (.lst []) := by rw [← hH, ← hF]; exact app_at (app_at (last_at h _))
  have HM : H[M]? = some (.lst ((List.range N).map (fl []))) := by
    rw [← hH, ← hM, last_at]
    congr 2
    refine List.ext_getElem? fun i => ?_
    rw [List.getElem?_map]
    by_cases c : i < N
    · rw [List.getElem?_range c, List.getElem?_replicate, if_pos c]
      rfl
    · rw [List.getElem?_eq_none (by simp; omega), List.getElem?_eq_none (by simp; omega)]
      rfl
  have l2 := ln_loc (keep0 a _ ea)
  rw [List.length_map, lu] at l2
  (rw [Fw.seq_ap]; conv => { pattern (Fw.thn _ _); arg 1; simp (disch := first | omega | exact rfl) only [EV0, EV1, EV2, EV3, List.set_cons_zero, List.set_cons_succ, List.length_cons, List.length_nil, List.length_map, Nat.zero_add, List.cons_append, List.nil_append, and_self, and_true, true_and, and_false, false_and, if_true, if_false, decide_true, decide_false, decide_eq_true_eq, Bool.not_true, Bool.not_false, Bool.false_eq_true, Bool.true_eq_false, Bool.not_eq_true, eq_self, not_true_eq_false, not_false_eq_true, List.cons.injEq, Nat.reduceAdd, Nat.reduceLeDiff, Nat.reduceEqDiff, Nat.reduceSub, Nat.reduceMul, ↓reduceIte, reduceCtorEq, l2, sRg1_k, rgk1_ok] })
  generalize hL : loop _ _ _ _ _ _ = L
  obtain ⟨e', h', rfl, fd, met, z4, z5, z6, rfl, q1, q2, q3, q4⟩ := loop_rg hL (fun i en hx => ∃ fd met z4 z5 z6, en = [some (.loc a), some (.loc b), some (.loc F), some (.loc M), z4, z5, z6] ∧ hx[F]? = some (.lst (fd.map vT)) ∧ hx[M]? = some (.lst ((List.range N).map (fl met))) ∧ (fd.length ≤ i ∧ fd ++ rgo u l N ((List.range N).drop i) met = rds u l N) ∧ ∀ (i : Nat) (o : Ob), h[i]? = some o → hx[i]? = some o)
    ⟨[], [], none, none, none, rfl, HF, HM, ⟨by simp, rfl⟩, keep0⟩ (by
    rintro i en hx hi ⟨fd, met, z4, z5, z6, rfl, q1, q2, ⟨q3, q3'⟩, q4⟩
    have er : (List.range N).drop i = i :: (List.range N).drop (i + 1) := by
      obtain ⟨x, e1, e2⟩ := drop_cons (xs := List.range N) (i := i) (by simpa using hi)
      rw [List.getElem?_range hi] at e1
      cases e1
      exact e2
    have i1 : kIx (.loc M) (.int (i : Nat)) hx = .ok (fl met i) hx := ix_loc q2 (by rw [List.getElem?_map, List.getElem?_range hi]; rfl)
    rw [er, rgo] at q3'
    by_cases c : met.contains i = true
    · rw [if_pos c] at q3'
      have i1 : kIx (.loc M) (.int (i : Nat)) hx = .ok (.bl true) hx := by rw [i1, fl, c]
      (apply Exists.intro; apply Exists.intro; apply And.intro; focus (simp (disch := first | omega | exact rfl) only [EV0, EV1, EV2, EV3, List.set_cons_zero, List.set_cons_succ, List.length_cons, List.length_nil, List.length_map, Nat.zero_add, List.cons_append, List.nil_append, and_self, and_true, true_and, and_false, false_and, if_true, if_false, decide_true, decide_false, decide_eq_true_eq, Bool.not_true, Bool.not_false, Bool.false_eq_true, Bool.true_eq_false, Bool.not_eq_true, eq_self, not_true_eq_false, not_false_eq_true, List.cons.injEq, Nat.reduceAdd, Nat.reduceLeDiff, Nat.reduceEqDiff, Nat.reduceSub, Nat.reduceMul, ↓reduceIte, reduceCtorEq, i1] <;> rfl))
      exact ⟨fd, met, _, _, _, rfl, q1, q2, ⟨by omega, q3'⟩, q4⟩
    · rw [if_neg c] at q3'
      have c' : met.contains i = false := by simpa using c
      have i1 : kIx (.loc M) (.int (i : Nat)) hx = .ok (.bl false) hx := by rw [i1, fl, c']
      have wf := walk_from_ok mu ml hN (q4 a _ ea) (q4 b _ eb) hu hl hi
      have wl := walk_len mu ml hi
      generalize hW : walk u l N i = W at *
      have sr := srt_N (last_at hx (Ob.lst (W.map vN))) (by omega)
      have tl := tpL_ok (last_at (hx ++ [Ob.lst (W.map vN)]) (Ob.lst ((srtN W).map vN)))
      have q1' : (hx ++ [Ob.lst (W.map vN)] ++ [Ob.lst ((srtN W).map vN)])[F]? = some (.lst (fd.map vT)) := app_at (app_at q1)
      have ty := ty_lst q1'
      have ap := app_ok (y := vT (srtN W)) q1' (by rw [List.length_map]; omega)
      have sl := srtN_len W
      generalize hK : (hx ++ [Ob.lst (W.map vN)]).length = K at *
      have Kb : hx.length < K := by rw [← hK]; simp
      generalize hY : hx ++ [Ob.lst (W.map vN)] ++ [Ob.lst ((srtN W).map vN)] = Y at *
      have YK : Y[K]? = some (.lst ((srtN W).map vN)) := by rw [← hY, ← hK]; exact last_at _ _
      have FK : F ≠ K := by have := (List.getElem?_eq_some_iff.mp q1).1; omega
      have MK : M ≠ K := by have := (List.getElem?_eq_some_iff.mp q2).1; omega
      have YM : Y[M]? = some (.lst ((List.range N).map (fl met))) := by rw [← hY]; exact app_at (app_at q2)
      have Yk : ∀ (i : Nat) (o : Ob), h[i]? = some o → Y[i]? = some o := fun i o e => by rw [← hY]; exact app_at (app_at (q4 i o e))
      generalize hZ : Y.set F (.lst (fd.map vT ++ [vT (srtN W)])) = Z at *
      have ZK : Z[K]? = some (.lst ((srtN W).map vN)) := by rw [← hZ]; exact set_ne FK YK
      have ZM : Z[M]? = some (.lst ((List.range N).map (fl met))) := by rw [← hZ]; exact set_ne (by omega) YM
      have ZF : Z[F]? = some (.lst ((fd ++ [srtN W]).map vT)) := by rw [← hZ, set_at q1', List.map_append]; rfl
      have Zk : ∀ (i : Nat) (o : Ob), h[i]? = some o → Z[i]? = some o := fun i o e => by
        rw [← hZ]
        have := (List.getElem?_eq_some_iff.mp e).1
        exact set_ne (by omega) (Yk i o e)
      have tl : kTpl [Va.loc K] Y = .ok (vT (srtN W)) Y := tl
      have iv := itV_loc ZK
      rw [List.length_map] at iv
      simp (disch := first | omega | exact rfl) only [EV0, EV1, EV2, EV3, List.set_cons_zero, List.set_cons_succ, List.length_cons, List.length_nil, List.length_map, Nat.zero_add, List.cons_append, List.nil_append, and_self, and_true, true_and, and_false, false_and, if_true, if_false, decide_true, decide_false, decide_eq_true_eq, Bool.not_true, Bool.not_false, Bool.false_eq_true, Bool.true_eq_false, Bool.not_eq_true, eq_self, not_true_eq_false, not_false_eq_true, List.cons.injEq, Nat.reduceAdd, Nat.reduceLeDiff, Nat.reduceEqDiff, Nat.reduceSub, Nat.reduceMul, ↓reduceIte, reduceCtorEq, seq_ap, i1, wf, sr, ty, tl, ap, iv]
      generalize hL2 : loop _ _ _ _ _ _ = L2
      have sm : ∀ x ∈ srtN W, x < N := fun x m => by
        rw [← hW] at m
        exact walk_lt mu ml hi x ((srtN_mem x _).mp m)
      obtain ⟨e', h', rfl, z6, rfl, r1, r2, r3, r4⟩ := loop_ls hL2 (by simp) (fun j en hy => ∃ z6, en = [some (.loc a), some (.loc b), some (.loc F), some (.loc M), some (.int (i : Nat)), some (.loc K), z6] ∧ hy[K]? = some (.lst ((srtN W).map vN)) ∧ hy[M]? = some (.lst ((List.range N).map (fl (met ++ (srtN W).take j)))) ∧ hy[F]? = some (.lst ((fd ++ [srtN W]).map vT)) ∧ ∀ (i : Nat) (o : Ob), h[i]? = some o → hy[i]? = some o)
        ⟨z6, rfl, ZK, by simpa using ZM, ZF, Zk⟩ (fun j en hy ⟨_, _, k, _⟩ => k) (by
        rintro j x en hy ex ⟨z6, rfl, r1, r2, r3, r4⟩
        rw [List.getElem?_map] at ex
        obtain ⟨y, ey, rfl⟩ := Option.map_eq_some_iff.mp ex
        have yN := sm y (List.mem_of_getElem? ey)
        have ks := ks_at (y := Va.bl true) r2 (i := y) (by simpa using yN)
        have ks : kSet (.loc M) (vN y) (.bl true) hy = some _ := ks
        have nf : ((List.range N).map (fl (met ++ (srtN W).take j))).set y (Va.bl true) = (List.range N).map (fl (met ++ (srtN W).take (j + 1))) := by
          refine List.ext_getElem? fun i => ?_
          rw [List.take_succ, ey]
          by_cases ci : i < N
          · rw [List.getElem?_map, List.getElem?_range ci]
            by_cases e : y = i
            · subst e
              rw [List.getElem?_set_self (by simpa using ci)]
              simp [fl]
            · rw [List.getElem?_set_ne e, List.getElem?_map, List.getElem?_range ci]
              simp [fl, Ne.symm e]
          · rw [List.getElem?_eq_none (by simp; omega), List.getElem?_eq_none (by simp; omega)]
        rw [nf] at ks
        (apply Exists.intro; apply Exists.intro; apply And.intro; focus (simp (disch := first | omega | exact rfl) only [EV0, EV1, EV2, EV3, List.set_cons_zero, List.set_cons_succ, List.length_cons, List.length_nil, List.length_map, Nat.zero_add, List.cons_append, List.nil_append, and_self, and_true, true_and, and_false, false_and, if_true, if_false, decide_true, decide_false, decide_eq_true_eq, Bool.not_true, Bool.not_false, Bool.false_eq_true, Bool.true_eq_false, Bool.not_eq_true, eq_self, not_true_eq_false, not_false_eq_true, List.cons.injEq, Nat.reduceAdd, Nat.reduceLeDiff, Nat.reduceEqDiff, Nat.reduceSub, Nat.reduceMul, ↓reduceIte, reduceCtorEq, gSb_ap, ks] <;> rfl))
        have hyF := (List.getElem?_eq_some_iff.mp r3).1
        exact ⟨_, rfl, set_ne MK r1, set_at r2, set_ne (by omega) r3, fun i o e => set_ne (by have := (List.getElem?_eq_some_iff.mp e).1; omega) (r4 i o e)⟩)
      rw [List.length_map, List.take_length] at r2
      refine ⟨_, _, rfl, fd ++ [srtN W], met ++ W, _, _, _, rfl, r3, ?_, ⟨by simp; omega, by rw [← q3']; simp⟩, r4⟩
      rw [r2]
      congr 2
      refine List.map_congr_left fun x _ => ?_
      simp only [fl, List.contains_eq_mem, List.mem_append, srtN_mem]
      )
  rw [thn_nx]
  have dn : (List.range N).drop N = [] := by simp
  rw [dn, rgo, List.append_nil] at q3
  refine ⟨h', ?_, by rw [← q3.2]; exact q1, q4⟩
  simp (disch := first | omega | exact rfl) only [EV0, EV1, EV2, EV3, List.set_cons_zero, List.set_cons_succ, List.length_cons, List.length_nil, List.length_map, Nat.zero_add, List.cons_append, List.nil_append, and_self, and_true, true_and, and_false, false_and, if_true, if_false, decide_true, decide_false, decide_eq_true_eq, Bool.not_true, Bool.not_false, Bool.false_eq_true, Bool.true_eq_false, Bool.not_eq_true, eq_self, not_true_eq_false, not_false_eq_true, List.cons.injEq, Nat.reduceAdd, Nat.reduceLeDiff, Nat.reduceEqDiff, Nat.reduceSub, Nat.reduceMul, ↓reduceIte, reduceCtorEq]
end Pg

set_option Elab.async false
set_option linter.all false
set_option maxRecDepth 100000
set_option maxHeartbeats 4000000
set_option autoImplicit false
namespace Pg
open PySem PySem.Spec L2 Fw
open PyProof.Rows hiding St
open Dw (Mt it2 fts walk srtN rgo rds mt)
theorem lf_N (l : List Nat) : lfL (l.map vN) = true := lfL_map (g := vN) (fun _ => rfl) l
theorem lf_vT (l : List Nat) : lf (vT l) = true := lf_N l
theorem lf_rds (l : List (List Nat)) : lf (.tup (l.map vT)) = true := lfL_map (g := vT) lf_vT l
/-- the rounds of two rows -/
abbrev rdF (f g : Dw.Fo) : List (List Nat) := rds (mt f) (mt g) (Dw.sz f)
theorem need_rows_ok {f g : Dw.Fo} {h : Hs} (l : Dw.sz f ≤ 24) (e : Dw.sz g = Dw.sz f) : G_need_rows [.str (Dw.word f), .str (Dw.word g)] h = .ok .non h := by
  have r1 := fun h => nr_ok (f := f) (h := h) l
  have r2 := fun h => nr_ok (f := g) (h := h) (by omega)
  have w1 := Dw.word_len f
  have w2 := Dw.word_len g
  refine pure_of rfl (h' := []) ?_ rfl
  show fin (b_need_rows [some (.str (Dw.word f)), some (.str (Dw.word g))] []) = _
  unfold b_need_rows
  simp (disch := first | omega | exact rfl) only [EV0, EV1, EV2, EV3, List.set_cons_zero, List.set_cons_succ, List.length_cons, List.length_nil, List.length_map, Nat.zero_add, List.cons_append, List.nil_append, and_self, and_true, true_and, and_false, false_and, if_true, if_false, decide_true, decide_false, decide_eq_true_eq, Bool.not_true, Bool.not_false, Bool.false_eq_true, Bool.true_eq_false, Bool.not_eq_true, eq_self, not_true_eq_false, not_false_eq_true, List.cons.injEq, Nat.reduceAdd, Nat.reduceLeDiff, Nat.reduceEqDiff, Nat.reduceSub, Nat.reduceMul, ↓reduceIte, reduceCtorEq, seq_ap, r1, r2, w1, w2, e]
theorem rd_bound {N : Nat} {u l : Nat → Nat} : ∀ (fs met : List Nat), (rgo u l N fs met).length ≤ fs.length
  | [], _ => by simp [rgo]
  | f :: fs, met => by
    unfold rgo
    split
    · have := rd_bound (N := N) (u := u) (l := l) fs met
      simp only [List.length_cons]
      omega
    · have := rd_bound (N := N) (u := u) (l := l) fs (met ++ walk u l N f)
      simp only [List.length_cons]
      omega
theorem rds_len {N : Nat} {u l : Nat → Nat} : (rds u l N).length ≤ N := by
  have := rd_bound (N := N) (u := u) (l := l) (List.range N) []
  rw [List.length_range] at this
  exact this
theorem rounds_ok {f g : Dw.Fo} {h : Hs} (l : Dw.sz f ≤ 24) (e : Dw.sz g = Dw.sz f) : G_rounds [.str (Dw.word f), .str (Dw.word g)] h = .ok (.tup ((rdF f g).map vT)) h := by
  suffices hh : ∃ h', R_rounds [.str (Dw.word f), .str (Dw.word g)] [] = .ok (.tup ((rdF f g).map vT)) h' by
    obtain ⟨h', hh⟩ := hh
    refine pure_of rfl hh ?_
    exact lf_rds _
  have r := fun h => need_rows_ok (h := h) l e
  have m1 := mates_ok (f := f) (h := []) l
  have m2 := mates_ok (f := g) (h := [] ++ [.lst ((Dw.M 0 f).map vN)]) (by omega)
  have hg : ∀ x, x < Dw.sz f → (Dw.M 0 g)[x]? = some (mt g x) := fun x hx => Dw.mt_at (by omega)
  have mg : Mt (Dw.sz f) (mt g) := by rw [← e]; exact Dw.mt_Mt g
  obtain ⟨h', q1, q2, q3⟩ := rounds_of_mates_ok (Dw.mt_Mt f) mg (us := Dw.M 0 f) (ls := Dw.M 0 g) (a := 0) (b := 1) (h := [] ++ [Ob.lst ((Dw.M 0 f).map vN)] ++ [Ob.lst ((Dw.M 0 g).map vN)]) l rfl rfl (Dw.M_len f 0) (fun x hx => Dw.mt_at hx) hg
  have tp := tpL_ok q2
  refine ⟨h', ?_⟩
  show fin (b_rounds [some (.str (Dw.word f)), some (.str (Dw.word g))] []) = _
  unfold b_rounds
  simp only [List.length_nil, List.nil_append, List.length_cons, List.cons_append, Nat.zero_add, Nat.reduceAdd] at m1 m2 q1 tp
  simp (disch := first | omega | exact rfl) only [EV0, EV1, EV2, EV3, List.set_cons_zero, List.set_cons_succ, List.length_cons, List.length_nil, List.length_map, Nat.zero_add, List.cons_append, List.nil_append, and_self, and_true, true_and, and_false, false_and, if_true, if_false, decide_true, decide_false, decide_eq_true_eq, Bool.not_true, Bool.not_false, Bool.false_eq_true, Bool.true_eq_false, Bool.not_eq_true, eq_self, not_true_eq_false, not_false_eq_true, List.cons.injEq, Nat.reduceAdd, Nat.reduceLeDiff, Nat.reduceEqDiff, Nat.reduceSub, Nat.reduceMul, ↓reduceIte, reduceCtorEq, seq_ap, r, m1, m2, q1, tp]
theorem count_rounds_ok {f g : Dw.Fo} {h : Hs} (l : Dw.sz f ≤ 24) (e : Dw.sz g = Dw.sz f) : G_count_rounds [.str (Dw.word f), .str (Dw.word g)] h = .ok (.int ((rdF f g).length : Nat)) h := by
  have r := fun h => rounds_ok (h := h) l e
  refine pure_of rfl (h' := []) ?_ rfl
  show fin (b_count_rounds [some (.str (Dw.word f)), some (.str (Dw.word g))] []) = _
  unfold b_count_rounds
  simp (disch := first | omega | exact rfl) only [EV0, EV1, EV2, EV3, List.set_cons_zero, List.set_cons_succ, List.length_cons, List.length_nil, List.length_map, Nat.zero_add, List.cons_append, List.nil_append, and_self, and_true, true_and, and_false, false_and, if_true, if_false, decide_true, decide_false, decide_eq_true_eq, Bool.not_true, Bool.not_false, Bool.false_eq_true, Bool.true_eq_false, Bool.not_eq_true, eq_self, not_true_eq_false, not_false_eq_true, List.cons.injEq, Nat.reduceAdd, Nat.reduceLeDiff, Nat.reduceEqDiff, Nat.reduceSub, Nat.reduceMul, ↓reduceIte, reduceCtorEq, r]
end Pg

set_option Elab.async false
set_option linter.all false
set_option maxRecDepth 100000
set_option maxHeartbeats 4000000
set_option autoImplicit false
namespace Zt
open PySem PySem.Spec L2 Fw Pg
open PyProof.Rows hiding St
def zT (q : List Nat) : List Int := q.map fun x : Nat => (x : Int)
theorem vT_z (q : List Nat) : vT q = tupV (zT q) := by
  unfold vT tupV zT
  rw [List.map_map]
  rfl
theorem asI_N (q : List Nat) : mapO asI (q.map vN) = some (zT q) := mapO_some (f := asI) (g := vN) (k := fun x : Nat => (x : Int)) (fun x => rfl) q
theorem tupA_N {q : List Nat} (h : q ≠ []) : tupA (vT q) = some (zT q) := by
  cases q with
  | nil => exact absurd rfl h
  | cons x xs => exact asI_N (x :: xs)
theorem mapO_mem {α β : Type} {f : α → Option β} : ∀ {xs : List α} {k : α → β}, (∀ x ∈ xs, f x = some (k x)) → mapO f xs = some (xs.map k)
  | [], _, _ => rfl
  | x :: xs, k, h => by
    unfold mapO
    rw [h x List.mem_cons_self, mapO_mem (xs := xs) fun y hy => h y (List.mem_cons_of_mem _ hy)]
    rfl
theorem srtA_k {n : Nat} {ps : List (List Nat)} {h : Hs} (e : h[n]? = some (.lst (ps.map vT))) (ne : ∀ q ∈ ps, q ≠ []) (l : ps.length ≤ 16777216) : kSrtA [.loc n] h = .ok (.loc h.length) (h ++ [.lst ((srtT (ps.map zT)).map tupV)]) := by
  cases ps with
  | nil =>
    unfold kSrtA kSrtI
    simp only [lsA, e, List.map_nil, Option.bind_some]
    exact new_ok (by decide)
  | cons x xs =>
    have bad : kSrtI [.loc n] h = .bad := by
      unfold kSrtI
      simp only [lsA, e, List.map_cons, Option.bind_some, mapO]
      rfl
    unfold kSrtA
    rw [bad]
    have m : mapO tupA ((x :: xs).map vT) = some ((x :: xs).map zT) := by
      have := mapO_mem (f := fun q => tupA (vT q)) (xs := x :: xs) (k := zT) fun q hq => tupA_N (ne q hq)
      have mm : ∀ ys : List (List Nat), mapO tupA (ys.map vT) = mapO (fun q => tupA (vT q)) ys := by
        intro ys
        induction ys with
        | nil => rfl
        | cons y ys ih => simp only [List.map_cons, mapO, ih]
      rw [mm, this]
    simp only [kSrtT, lsA, e, Option.bind_some, m]
    refine new_ok ?_
    rw [List.length_map, (srtT_perm _).length_eq, List.length_map]
    exact l
theorem srtA_N {n : Nat} {xs : List Nat} {h : Hs} (e : h[n]? = some (.lst (xs.map vN))) (l : xs.length ≤ 16777216) : kSrtA [.loc n] h = .ok (.loc h.length) (h ++ [.lst ((Dw.srtN xs).map vN)]) := by
  have := srt_N e l
  unfold kSrtA
  rw [this]
end Zt

set_option Elab.async false
set_option linter.all false
set_option autoImplicit false
namespace Fw
open PySem PySem.Spec L2
open PyProof.Rows hiding St
theorem inX_dct {neg : Bool} {h : Hs} {n : Nat} {kvs : List (Va × Va)} {x : Va} {k : Key} (q : h[n]? = some (.dct kvs)) (e : keyA x = some k) : kInX neg x (.loc n) h = .ok (.bl (ngB neg (dGet kvs k).isSome)) h := by
  simp only [kInX, q, kInDc, e]
end Fw

set_option Elab.async false
set_option linter.all false
set_option maxRecDepth 100000
set_option maxHeartbeats 4000000
set_option autoImplicit false
namespace Ro
/-- the figures of a number with base 2, as words -/
def bt (n : Nat) : Nat := if n % 2 = 1 then 105 else 111
def figF : Nat → Nat → List Nat
  | 0, _ => []
  | k + 1, n => if n = 0 then [] else figF k (n / 2) ++ [bt n]
def fig (n : Nat) : List Nat := figF n n
theorem figF_eq : ∀ k n, n ≤ k → figF k n = figF n n
  | 0, n, h => by
    have : n = 0 := by omega
    subst this; rfl
  | k + 1, n, h => by
    cases n with
    | zero => rfl
    | succ n =>
      show figF k ((n + 1) / 2) ++ [bt (n + 1)] = figF n ((n + 1) / 2) ++ [bt (n + 1)]
      rw [figF_eq k _ (by omega), figF_eq n _ (by omega)]
theorem fig_zero : fig 0 = [] := rfl
theorem fig_pos {n : Nat} (h : 0 < n) : fig n = fig (n / 2) ++ [bt n] := by
  cases n with
  | zero => omega
  | succ n =>
    show figF n ((n + 1) / 2) ++ [bt (n + 1)] = _
    rw [figF_eq n _ (by omega)]
    rfl
theorem fig_len : ∀ L n, n < 2 ^ L → (fig n).length ≤ L
  | 0, n, h => by
    have : n = 0 := by simpa using h
    subst this
    simp [fig_zero]
  | L + 1, n, h => by
    by_cases c : n = 0
    · subst c; simp [fig_zero]
    · rw [fig_pos (by omega), List.length_append]
      have := fig_len L (n / 2) (by rw [Nat.pow_succ] at h; omega)
      simp
      omega
theorem fig_256 : ∀ k n, n ≤ k → ∀ c ∈ fig n, c = 105 ∨ c = 111
  | 0, n, h, c, hc => by
    have : n = 0 := by omega
    subst this
    rw [fig_zero] at hc
    cases hc
  | k + 1, n, h, c, hc => by
    by_cases z : n = 0
    · subst z; rw [fig_zero] at hc; cases hc
    · rw [fig_pos (by omega)] at hc
      rcases List.mem_append.mp hc with hc | hc
      · exact fig_256 k (n / 2) (by omega) c hc
      · rw [List.mem_singleton] at hc
        subst hc
        unfold bt
        split
        · exact .inl rfl
        · exact .inr rfl
/-- where a card goes by a word -/
def mv (s w p : Nat) : Nat := if w = 105 then (if 2 * p < s then 2 * p + 1 else 2 * p - s) else if 2 * p < s then 2 * p else 2 * p - s + 1
theorem mv_lt {s w p : Nat} (ev : s % 2 = 0) (h : p < s) : mv s w p < s := by
  unfold mv
  split <;> split <;> omega
theorem mv_le (s w p : Nat) : mv s w p ≤ 2 * p + 1 := by
  unfold mv
  split <;> split <;> omega
def ledW (s : Nat) (ws : List Nat) : Nat := ws.foldl (fun p w => mv s w p) 0
theorem ledW_app (s : Nat) (ws : List Nat) (w : Nat) : ledW s (ws ++ [w]) = mv s w (ledW s ws) := by
  unfold ledW
  rw [List.foldl_append]
  rfl
theorem foldl_lt {s : Nat} (ev : s % 2 = 0) : ∀ (ws : List Nat) (p : Nat), p < s → ws.foldl (fun p w => mv s w p) p < s
  | [], p, h => h
  | w :: ws, p, h => foldl_lt ev ws _ (mv_lt ev h)
theorem ledW_lt {s : Nat} (ev : s % 2 = 0) (s0 : 0 < s) (ws : List Nat) : ledW s ws < s := foldl_lt ev ws 0 s0
theorem foldl_pow (s : Nat) : ∀ (ws : List Nat) (p L : Nat), p < 2 ^ L → ws.foldl (fun p w => mv s w p) p < 2 ^ (L + ws.length)
  | [], p, L, h => h
  | w :: ws, p, L, h => by
    have := foldl_pow s ws (mv s w p) (L + 1) (by
      have := mv_le s w p
      rw [Nat.pow_succ]
      omega)
    rw [List.foldl_cons, List.length_cons]
    rw [show L + (ws.length + 1) = L + 1 + ws.length by omega]
    exact this
theorem ledW_pow (s : Nat) (ws : List Nat) : ledW s ws < 2 ^ ws.length := by
  have := foldl_pow s ws 0 0 (by decide)
  rw [Nat.zero_add] at this
  exact this
theorem led_fig {s : Nat} : ∀ k n, n ≤ k → n < s → ledW s (fig n) = n
  | 0, n, h, _ => by
    have : n = 0 := by omega
    subst this; rfl
  | k + 1, n, h, l => by
    by_cases c : n = 0
    · subst c; rfl
    · rw [fig_pos (by omega), ledW_app, led_fig k (n / 2) (by omega) (by omega)]
      unfold mv bt
      by_cases d : n % 2 = 1
      · rw [if_pos d, if_pos rfl, if_pos (by omega)]
        omega
      · rw [if_neg d, if_neg (by decide), if_pos (by omega)]
        omega
/-! ### going out row by row -/
def st1 (s w : Nat) (ks : List Nat) (h : Nat) : Option (List Nat) := if h ∈ ks then (if mv s w h ∈ ks then some ks else if mv s w h / 2 = h ∧ mv s w h ≠ 0 ∧ bt (mv s w h) = w ∧ mv s w h < s then some (ks ++ [mv s w h]) else none) else none
def vis (s : Nat) (ks : List Nat) (h : Nat) : Option (List Nat) := (st1 s 105 ks h).bind fun k => st1 s 111 k h
def lev (s : Nat) : List Nat → List Nat → Option (List Nat)
  | ks, [] => some ks
  | ks, h :: F => (vis s ks h).bind fun k => lev s k F
def bfs (s : Nat) : Nat → List Nat → List Nat → Option (List Nat)
  | 0, ks, F => if F = [] then some ks else none
  | n + 1, ks, F => if F = [] then some ks else (lev s ks F).bind fun k => bfs s n k (k.drop ks.length)
theorem bfs_all : ∀ i, i < 32 → (bfs (2 + 2 * i) 8 [0] [0]).map (fun ks => (Dw.srtN ks, ks.length)) = some (List.range (2 + 2 * i), 2 + 2 * i) := by decide +kernel
end Ro

set_option Elab.async false
set_option linter.all false
set_option maxRecDepth 100000
set_option maxHeartbeats 2000000
set_option autoImplicit false
namespace Lawk57
open PySem PySem.Spec L2 Fw Pg Dk
open PyProof.Rows hiding St
def b__law_box : Ss :=
  (seq (sSet 2 (sIte (sBl (s2 kLt (sVar 1) (sBlt kLen (sCons (sVar 0) sNil)))) (sBlt kInt (sCons (s2 kIx (sVar 0) (sVar 1)) sNil)) (s2 kAdd (s2 kMul (sK (.int 7919)) (sVar 1)) (sK (.int 67)))))
  (seq (sSet 3 (s2 kAdd (sK (.int 92821)) (s2 kMul (sK (.int 6007)) (sVar 1))))
  (seq (sFor (sItr (sSl (sVar 0) sNo (sSo (sK (.int 7))))) (gNm 4)
  (sSet 3 (s2 kMod (sBlt kInt (sCons (s2 kAdd (s2 kAdd (s2 kMul (sVar 3) (sK (.int 31337))) (s2 kMod (sBlt kInt (sCons (sVar 4) sNil)) (sK (.int 1000151)))) (sVar 1)) sNil)) (sK (.int 2147483543)))))
  (seq (sSet 5 (sIte (sOr (sBl (s2 kLt (sVar 2) (sK (.int 0)))) (sBl (s2 kGe (sVar 2) (s2 kPow (sK (.int 10)) (sK (.int 18)))))) (sBlt kAbs (sCons (sVar 2) sNil)) (sK (.int 0))))
  (sRet (sLst (sCons (sVar 5) (sCons (s2 kMod (sBlt kInt (sCons (s2 kAdd (s2 kMul (sVar 3) (sK (.int 40014))) (s2 kMod (sBlt kInt (sCons (sVar 2) sNil)) (sK (.int 2147483543)))) sNil)) (sK (.int 2147483543))) (sCons (sK (.int 0)) sNil)))))))))
abbrev R__law_box : Fn := runB 6 b__law_box
def G__law_box : Fn := pureF R__law_box
def b__law_dice : Ss :=
  (seq (sAsg (s2 kAdd (s2 kIx (sVar 0) (sK (.int 2))) (sK (.int 1))) (gSb (sVar 0) (sK (.int 2))))
  (seq (sIf (sBl (s2 kGt (s2 kIx (sVar 0) (sK (.int 0))) (sK (.int 0))))
  (seq (sAsg (sBlt kDvm (sCons (s2 kIx (sVar 0) (sK (.int 0))) (sCons (sVar 1) sNil))) (gTp 2 (gsCons (gSb (sVar 0) (sK (.int 0))) (gsCons (gNm 2) gsNil))))
  (sRet (sVar 2)))
  skip)
  (seq (sSet 3 (sBlt kInt (sCons (s2 kIx (sVar 0) (sK (.int 1))) sNil)))
  (seq (sSet 4 (s2 kAdd (s2 kMod (sBlt kInt (sCons (sVar 3) sNil)) (sK (.int 9001))) (sK (.int 16807))))
  (seq (sAsg (s2 kMod (sBlt kInt (sCons (s2 kAdd (s2 kAdd (s2 kMul (sVar 3) (sVar 4)) (s2 kMul (sK (.int 30269)) (s2 kIx (sVar 0) (sK (.int 2))))) (sK (.int 5))) sNil)) (sK (.int 2147483543))) (gSb (sVar 0) (sK (.int 1))))
  (sRet (s2 kMod (sBlt kInt (sCons (s2 kFdv (s2 kIx (sVar 0) (sK (.int 1))) (sK (.int 32))) sNil)) (sVar 1))))))))
abbrev R__law_dice : Fn := runB 5 b__law_dice
@[irreducible] def G__law_dice : Fn := R__law_dice
theorem g__law_dice (xs : List Va) (h : Hs) (_ : xs.length = 2) (_ : G__law_dice xs h ≠ .bad) : R__law_dice xs h = G__law_dice xs h := congrFun (congrFun (show R__law_dice = G__law_dice from by unfold G__law_dice; rfl) xs) h
def b__law_moved : Ss :=
  (seq (sSet 3 (s2 kLt (s2 kMul (sK (.int 2)) (sVar 2)) (sVar 1)))
  (seq (sIf (sBl (s2 kEq (sVar 0) (sK (.str [111, 117, 116]))))
  (sRet (sIte (sTru (sVar 3)) (s2 kMul (sK (.int 2)) (sVar 2)) (s2 kAdd (s2 kSub (s2 kMul (sK (.int 2)) (sVar 2)) (sVar 1)) (sK (.int 1)))))
  skip)
  (seq (sIf (sBl (s2 kEq (sVar 0) (sK (.str [105, 110]))))
  (sRet (sIte (sTru (sVar 3)) (s2 kAdd (s2 kMul (sK (.int 2)) (sVar 2)) (sK (.int 1))) (s2 kSub (s2 kMul (sK (.int 2)) (sVar 2)) (sVar 1))))
  skip)
  (sRet (sIte (sTru (sVar 3)) (s2 kMul (sK (.int 2)) (sVar 2)) (s2 kSub (s2 kSub (s2 kMul (sK (.int 2)) (sVar 1)) (sK (.int 1))) (s2 kMul (sK (.int 2)) (sVar 2))))))))
abbrev R__law_moved : Fn := runB 4 b__law_moved
def G__law_moved : Fn := pureF R__law_moved
def b__law_figures : Ss :=
  (seq (sSet 1 (sK (.str [])))
  (seq (whl (sBl (s2 kGt (sVar 0) (sK (.int 0))))
  (sPar [1, 0] (sCons (s2 kAdd (s2 kIx (sLst (sCons (sK (.str [111])) (sCons (sK (.str [105])) sNil))) (s2 kMod (sBlt kInt (sCons (sVar 0) sNil)) (sK (.int 2)))) (sVar 1)) (sCons (s2 kFdv (sVar 0) (sK (.int 2))) sNil))) 1000)
  (sRet (sVar 1))))
abbrev R__law_figures : Fn := runB 2 b__law_figures
def G__law_figures : Fn := pureF R__law_figures
def b__law_of : Ss :=
  (sRet (s2 kIx (sVar 1) (sCall G__law_dice 2 [0, 1] (sCons (sVar 0) (sCons (sBlt kLen (sCons (sVar 1) sNil)) sNil)))))
abbrev R__law_of : Fn := runB 2 b__law_of
@[irreducible] def G__law_of : Fn := R__law_of
theorem g__law_of (xs : List Va) (h : Hs) (_ : xs.length = 2) (_ : G__law_of xs h ≠ .bad) : R__law_of xs h = G__law_of xs h := congrFun (congrFun (show R__law_of = G__law_of from by unfold G__law_of; rfl) xs) h
def b__law_rows : Ss :=
  (seq (sPar [1, 2] (sCons (sDsp [((sK (.int 0)), (sK (.str [])))]) (sCons (sLst (sCons (sK (.int 0)) sNil)) sNil)))
  (seq (whl (sBl (s2 kNe (sVar 2) (sLst sNil)))
  (seq (sSet 3 (sLst sNil))
  (seq (sFor (sItr (sVar 2)) (gNm 4)
  (sFor (sItr (sLst (sCons (sK (.str [105])) (sCons (sK (.str [111])) sNil)))) (gNm 5)
  (seq (sSet 6 (sCall G__law_moved 3 [0, 1, 2] (sCons (sIte (sBl (s2 kEq (sVar 5) (sK (.str [105])))) (sK (.str [105, 110])) (sK (.str [111, 117, 116]))) (sCons (sVar 0) (sCons (sVar 4) sNil)))))
  (sIf (sBl (s2 (kInX true) (sVar 6) (sVar 1)))
  (seq (sAsg (s2 kAdd (s2 kIxD (sVar 1) (sVar 4)) (sVar 5)) (gSbD (sVar 1) (sVar 6)))
  (sDrop (sMth "list" kApp (sVar 3) (sCons (sVar 6) sNil))))
  skip))))
  (sSet 2 (sVar 3)))) 1000)
  (sRet (sVar 1))))
abbrev R__law_rows : Fn := runB 7 b__law_rows
@[irreducible] def G__law_rows : Fn := R__law_rows
theorem g__law_rows (xs : List Va) (h : Hs) (_ : xs.length = 1) (_ : G__law_rows xs h ≠ .bad) : R__law_rows xs h = G__law_rows xs h := congrFun (congrFun (show R__law_rows = G__law_rows from by unfold G__law_rows; rfl) xs) h
def b__law_led : Ss :=
  (seq (sSet 2 (sK (.int 0)))
  (seq (sFor (sItr (sVar 1)) (gNm 3)
  (sSet 2 (sCall G_place_after 4 [0, 1, 2, 3] (sCons (sIte (sBl (s2 kEq (sVar 3) (sK (.str [105])))) (sK (.str [105, 110])) (sK (.str [111, 117, 116]))) (sCons (sVar 0) (sCons (sVar 2) (sCons (sK (.int 1)) sNil)))))))
  (sRet (sVar 2))))
abbrev R__law_led : Fn := runB 4 b__law_led
def G__law_led : Fn := pureF R__law_led
def b__law_great_right : Ss :=
  (seq (sSet 1 (sCall G__law_of 2 [0, 1] (sCons (sVar 0) (sCons (sLst (sCons (sK (.int 52)) (sCons (s2 kPow (sK (.int 2)) (sK (.int 10))) (sCons (s2 kPow (sK (.int 2)) (sK (.int 19))) (sCons (s2 kPow (sK (.int 10)) (sK (.int 6))) (sCons (s2 kAdd (sK (.int 2)) (s2 kMul (sK (.int 2)) (sCall G__law_dice 2 [0, 1] (sCons (sVar 0) (sCons (sK (.int 900)) sNil))))) (sCons (s2 kAdd (sK (.int 2)) (s2 kMul (sK (.int 2)) (sCall G__law_dice 2 [0, 1] (sCons (sVar 0) (sCons (sK (.int 499999)) sNil))))) sNil))))))) sNil))))
  (seq (sSet 2 (sCall G__law_of 2 [0, 1] (sCons (sVar 0) (sCons (sLst (sCons (sCall G__law_dice 2 [0, 1] (sCons (sVar 0) (sCons (sVar 1) sNil))) (sCons (sCall G__law_dice 2 [0, 1] (sCons (sVar 0) (sCons (sVar 1) sNil))) (sCons (s2 kSub (sVar 1) (sK (.int 1))) (sCons (s2 kFdv (sVar 1) (sK (.int 2))) (sCons (sK (.int 0)) sNil)))))) sNil))))
  (seq (sSet 3 (sCall G_row_to 2 [0, 1] (sCons (sVar 1) (sCons (sVar 2) sNil))))
  (sRet (sAndV (s2 kEq (sVar 3) (sCall G__law_figures 1 [0] (sCons (sVar 2) sNil))) (s2 kEq (sCall G__law_led 2 [0, 1] (sCons (sVar 1) (sCons (sVar 3) sNil))) (sVar 2)))))))
abbrev R__law_great_right : Fn := runB 4 b__law_great_right
@[irreducible] def G__law_great_right : Fn := R__law_great_right
theorem g__law_great_right (xs : List Va) (h : Hs) (_ : xs.length = 1) (_ : G__law_great_right xs h ≠ .bad) : R__law_great_right xs h = G__law_great_right xs h := congrFun (congrFun (show R__law_great_right = G__law_great_right from by unfold G__law_great_right; rfl) xs) h
def b__law_right : Ss :=
  (seq (sFor (sRg1 (sCons (sK (.int 2)) sNil)) (gNm 1)
  (seq (sSet 2 (s2 kAdd (sK (.int 2)) (s2 kMul (sK (.int 2)) (sCall G__law_dice 2 [0, 1] (sCons (sVar 0) (sCons (sCall G__law_of 2 [0, 1] (sCons (sVar 0) (sCons (sLst (sCons (sK (.int 5)) (sCons (sK (.int 20)) (sCons (sK (.int 32)) sNil)))) sNil))) sNil))))))
  (seq (sSet 3 (sCall G__law_rows 1 [0] (sCons (sVar 2) sNil)))
  (seq (sIf (sBl (s2 kNe (sBlt kSrtD (sCons (sVar 3) sNil)) (sLstRg1 (sVar 2))))
  (sRet (sK (.bl false)))
  skip)
  (seq (sSet 4 (sLstRg1 (sVar 2)))
  (seq (sIf (sBl (s2 kGt (sVar 2) (sK (.int 12))))
  (sSet 4 (s2 kAdd (sLst (sCons (sK (.int 0)) (sCons (s2 kSub (sVar 2) (sK (.int 1))) sNil))) (sLc (sRg1 (sCons (sK (.int 4)) sNil)) (gNm 7) tru (sCall G__law_dice 2 [0, 1] (sCons (sVar 0) (sCons (sVar 2) sNil))) [7])))
  skip)
  (seq (sFor (sItr (sVar 4)) (gNm 5)
  (sIf (sBl (s2 kNe (sBlt kRpr (sCons (sCall G_row_to 2 [0, 1] (sCons (sVar 2) (sCons (sVar 5) sNil))) sNil)) (sBlt kRpr (sCons (s2 kIxD (sVar 3) (sVar 5)) sNil))))
  (sRet (sK (.bl false)))
  skip))
  (seq (sSet 5 (sCall G__law_dice 2 [0, 1] (sCons (sVar 0) (sCons (sVar 2) sNil))))
  (seq (sIf (sOr (sBl (s2 kNe (sCallK G_row_to 0 2 [1, 0] sNil (sCons (sVar 5) (sCons (sVar 2) sNil))) (s2 kIxD (sVar 3) (sVar 5)))) (sBl (s2 kNe (sCall G__law_led 2 [0, 1] (sCons (sVar 2) (sCons (s2 kIxD (sVar 3) (sVar 5)) sNil))) (sVar 5))))
  (sRet (sK (.bl false)))
  skip)
  (seq (sIf (sBl (s2 kNe (s2 kIxD (sVar 3) (sVar 5)) (sCall G__law_figures 1 [0] (sCons (sVar 5) sNil))))
  (sRet (sK (.bl false)))
  skip)
  (seq (sSet 6 (sMth "str" kJoin (sK (.str [])) (sCons (sLc (sRg1 (sCons (sCall G__law_dice 2 [0, 1] (sCons (sVar 0) (sCons (sK (.int 13)) sNil))) sNil)) (gNm 7) tru (sCall G__law_of 2 [0, 1] (sCons (sVar 0) (sCons (sK (.str [105, 111])) sNil))) [7]) sNil)))
  (sIf (sBl (s2 kGt (sBlt kLen (sCons (sCall G_row_to 2 [0, 1] (sCons (sVar 2) (sCons (sCall G__law_led 2 [0, 1] (sCons (sVar 2) (sCons (sVar 6) sNil))) sNil))) sNil)) (sBlt kLen (sCons (sVar 6) sNil))))
  (sRet (sK (.bl false)))
  skip))))))))))))
  (sRet (sCall G__law_great_right 1 [0] (sCons (sVar 0) sNil))))
abbrev R__law_right : Fn := runB 8 b__law_right
@[irreducible] def G__law_right : Fn := R__law_right
theorem g__law_right (xs : List Va) (h : Hs) (_ : xs.length = 1) (_ : G__law_right xs h ≠ .bad) : R__law_right xs h = G__law_right xs h := congrFun (congrFun (show R__law_right = G__law_right from by unfold G__law_right; rfl) xs) h
def b_law : Ss :=
  (sRet (sBlt kAll (sCons (sLc (sRg1 (sCons (sBlt kMax (sCons (sK (.int 2)) (sCons (sBlt kMin (sCons (sBlt kLen (sCons (sVar 0) sNil)) (sCons (sK (.int 5)) sNil))) sNil))) sNil)) (gNm 1) tru (sCall G__law_right 1 [0] (sCons (sCall G__law_box 2 [0, 1] (sCons (sVar 0) (sCons (sVar 1) sNil))) sNil)) [1]) sNil)))
abbrev R_law : Fn := runB 2 b_law
def G_law : Fn := pureF R_law
end Lawk57

set_option Elab.async false
set_option linter.all false
set_option maxRecDepth 100000
set_option maxHeartbeats 4000000
set_option autoImplicit false
namespace Dk
open PySem PySem.Spec L2 Fw Pg
open PyProof.Rows hiding St
open Ro (fig bt mv)
def tIn : Va := .str [105, 110]
def tOut : Va := .str [111, 117, 116]
theorem pw_one (m : Nat) : Dv.pw 1 m = 1 % m * (2 % m) % m := by
  show Dv.pwl m 100 (1 % m, 2 % m, 1) = _
  unfold Dv.pwl
  rw [if_neg (by simp)]
  unfold Dv.pws Dv.pwl
  simp
theorem need_in {h : Hs} : G_need_shuffle [.str [105, 110]] h = .ok .non h := pure_of (h' := []) rfl rfl rfl
theorem need_out {h : Hs} : G_need_shuffle [.str [111, 117, 116]] h = .ok .non h := pure_of (h' := []) rfl rfl rfl
theorem mod_in {s : Nat} {h : Hs} : G__modulus [.str [105, 110], .int (s : Nat)] h = .ok (.int (s + 1 : Nat)) h := by
  refine pure_of rfl (h' := []) ?_ rfl
  show fin (b__modulus [some (.str [105, 110]), some (.int (s : Nat))] []) = _
  unfold b__modulus
  have n1 : ¬ ([105, 110] : List Nat) = [111, 117, 116] := by decide
  simp (disch := first | omega | exact rfl) only [EV0, EV1, EV2, EV3, List.set_cons_zero, List.set_cons_succ, List.length_cons, List.length_nil, List.length_map, Nat.zero_add, List.cons_append, List.nil_append, and_self, and_true, true_and, and_false, false_and, if_true, if_false, decide_true, decide_false, decide_eq_true_eq, Bool.not_true, Bool.not_false, Bool.false_eq_true, Bool.true_eq_false, Bool.not_eq_true, eq_self, not_true_eq_false, not_false_eq_true, List.cons.injEq, Nat.reduceAdd, Nat.reduceLeDiff, Nat.reduceEqDiff, Nat.reduceSub, Nat.reduceMul, ↓reduceIte, reduceCtorEq, seq_ap, n1]
theorem mod_out {s : Nat} {h : Hs} (s0 : 1 ≤ s) : G__modulus [.str [111, 117, 116], .int (s : Nat)] h = .ok (.int (s - 1 : Nat)) h := by
  refine pure_of rfl (h' := []) ?_ rfl
  show fin (b__modulus [some (.str [111, 117, 116]), some (.int (s : Nat))] []) = _
  unfold b__modulus
  simp (disch := first | omega | exact rfl) only [EV0, EV1, EV2, EV3, List.set_cons_zero, List.set_cons_succ, List.length_cons, List.length_nil, List.length_map, Nat.zero_add, List.cons_append, List.nil_append, and_self, and_true, true_and, and_false, false_and, if_true, if_false, decide_true, decide_false, decide_eq_true_eq, Bool.not_true, Bool.not_false, Bool.false_eq_true, Bool.true_eq_false, Bool.not_eq_true, eq_self, not_true_eq_false, not_false_eq_true, List.cons.injEq, Nat.reduceAdd, Nat.reduceLeDiff, Nat.reduceEqDiff, Nat.reduceSub, Nat.reduceMul, ↓reduceIte, reduceCtorEq, seq_ap]
theorem two_mod {s p m : Nat} (h : m ≤ 2 * p) (h2 : 2 * p < 2 * m) : 2 * p % m = 2 * p - m := by
  rw [show 2 * p = 2 * p - m + m by omega, Nat.add_mod_right, Nat.mod_eq_of_lt (by omega)]
  omega
theorem place_in {s p : Nat} {h : Hs} (s0 : 2 ≤ s) (s1 : s ≤ 1000000) (s2 : s % 2 = 0) (p1 : p < s) : G_place_after [.str [105, 110], .int (s : Nat), .int (p : Nat), .int (1 : Nat)] h = .ok (.int (mv s 105 p : Nat)) h := by
  have nz := fun h => need_sizeL (h := h) s0 s1 s2
  have o1 : 1 ≤ s := by omega
  have np : ∀ h, G_need_number [.int (p : Nat), .int (0 : Nat), .int (s - 1 : Nat)] h = .ok .non h := fun h => need_number_ok (by omega) (by omega)
  have nt : ∀ h, G_need_number [.int (1 : Nat), .int (0 : Nat), .int (1000000000000000000000000000000 : Nat)] h = .ok .non h := fun h => need_number_ok (by omega) (by decide)
  have pw := fun h => power_ok (e := 1) (m := s + 1) (h := h) (by omega) (by omega) (by decide)
  rw [pw_one, Nat.mod_eq_of_lt (show 1 < s + 1 by omega), Nat.mod_eq_of_lt (show 2 < s + 1 by omega), Nat.one_mul, Nat.mod_eq_of_lt (show 2 < s + 1 by omega)] at pw
  have n1 : ¬ ([105, 110] : List Nat) = [111, 117, 116] := by decide
  have ev : (p + 1) * 2 % (s + 1) = mv s 105 p + 1 := by
    unfold mv
    rw [if_pos rfl]
    split
    · rw [Nat.mod_eq_of_lt (by omega)]
      omega
    · rw [Nat.mul_comm, two_mod (s := s) (by omega) (by omega)]
      omega
  have ld : ∀ h, G__led [.str [105, 110], .int (s : Nat), .int (p : Nat), .int (2 : Nat)] h = .ok (.int (mv s 105 p : Nat)) h := fun h => by
    refine pure_of rfl (h' := []) ?_ rfl
    simp only [R__led, runB_ap, List.map_cons, List.map_nil, List.length_cons, List.length_nil, Nat.zero_add, Nat.reduceAdd, Nat.reduceSub, List.replicate_succ, List.replicate_zero, List.cons_append, List.nil_append]
    unfold b__led
    have mi := fun h => mod_in (s := s) (h := h)
    have sb : ∀ h, kSub (.int (mv s 105 p + 1 : Nat)) (.int (1 : Nat)) h = .ok (.int (mv s 105 p : Nat)) h := fun h => by rw [sb_ok (by omega), Nat.add_sub_cancel]
    (rw [Fw.seq_ap]; conv => { pattern (Fw.thn _ _); arg 1; simp (disch := first | omega | exact rfl) only [EV0, EV1, EV2, EV3, List.set_cons_zero, List.set_cons_succ, List.length_cons, List.length_nil, List.length_map, Nat.zero_add, List.cons_append, List.nil_append, and_self, and_true, true_and, and_false, false_and, if_true, if_false, decide_true, decide_false, decide_eq_true_eq, Bool.not_true, Bool.not_false, Bool.false_eq_true, Bool.true_eq_false, Bool.not_eq_true, eq_self, not_true_eq_false, not_false_eq_true, List.cons.injEq, Nat.reduceAdd, Nat.reduceLeDiff, Nat.reduceEqDiff, Nat.reduceSub, Nat.reduceMul, ↓reduceIte, reduceCtorEq, mi] }; rw [Fw.thn_nx])
    simp (disch := first | omega | exact rfl) only [EV0, EV1, EV2, EV3, List.set_cons_zero, List.set_cons_succ, List.length_cons, List.length_nil, List.length_map, Nat.zero_add, List.cons_append, List.nil_append, and_self, and_true, true_and, and_false, false_and, if_true, if_false, decide_true, decide_false, decide_eq_true_eq, Bool.not_true, Bool.not_false, Bool.false_eq_true, Bool.true_eq_false, Bool.not_eq_true, eq_self, not_true_eq_false, not_false_eq_true, List.cons.injEq, Nat.reduceAdd, Nat.reduceLeDiff, Nat.reduceEqDiff, Nat.reduceSub, Nat.reduceMul, ↓reduceIte, reduceCtorEq, seq_ap, n1, ev, sb]
  have mi := fun h => mod_in (s := s) (h := h)
  refine pure_of rfl (h' := []) ?_ rfl
  simp only [R_place_after, runB_ap, List.map_cons, List.map_nil, List.length_cons, List.length_nil, Nat.zero_add, Nat.reduceAdd, Nat.reduceSub, List.replicate_succ, List.replicate_zero, List.cons_append, List.nil_append]
  unfold b_place_after
  (rw [Fw.seq_ap]; conv => { pattern (Fw.thn _ _); arg 1; simp (disch := first | omega | exact rfl) only [EV0, EV1, EV2, EV3, List.set_cons_zero, List.set_cons_succ, List.length_cons, List.length_nil, List.length_map, Nat.zero_add, List.cons_append, List.nil_append, and_self, and_true, true_and, and_false, false_and, if_true, if_false, decide_true, decide_false, decide_eq_true_eq, Bool.not_true, Bool.not_false, Bool.false_eq_true, Bool.true_eq_false, Bool.not_eq_true, eq_self, not_true_eq_false, not_false_eq_true, List.cons.injEq, Nat.reduceAdd, Nat.reduceLeDiff, Nat.reduceEqDiff, Nat.reduceSub, Nat.reduceMul, ↓reduceIte, reduceCtorEq, need_in] }; rw [Fw.thn_nx])
  (rw [Fw.seq_ap]; conv => { pattern (Fw.thn _ _); arg 1; simp (disch := first | omega | exact rfl) only [EV0, EV1, EV2, EV3, List.set_cons_zero, List.set_cons_succ, List.length_cons, List.length_nil, List.length_map, Nat.zero_add, List.cons_append, List.nil_append, and_self, and_true, true_and, and_false, false_and, if_true, if_false, decide_true, decide_false, decide_eq_true_eq, Bool.not_true, Bool.not_false, Bool.false_eq_true, Bool.true_eq_false, Bool.not_eq_true, eq_self, not_true_eq_false, not_false_eq_true, List.cons.injEq, Nat.reduceAdd, Nat.reduceLeDiff, Nat.reduceEqDiff, Nat.reduceSub, Nat.reduceMul, ↓reduceIte, reduceCtorEq, nz] }; rw [Fw.thn_nx])
  (rw [Fw.seq_ap]; conv => { pattern (Fw.thn _ _); arg 1; simp (disch := first | omega | exact rfl) only [EV0, EV1, EV2, EV3, List.set_cons_zero, List.set_cons_succ, List.length_cons, List.length_nil, List.length_map, Nat.zero_add, List.cons_append, List.nil_append, and_self, and_true, true_and, and_false, false_and, if_true, if_false, decide_true, decide_false, decide_eq_true_eq, Bool.not_true, Bool.not_false, Bool.false_eq_true, Bool.true_eq_false, Bool.not_eq_true, eq_self, not_true_eq_false, not_false_eq_true, List.cons.injEq, Nat.reduceAdd, Nat.reduceLeDiff, Nat.reduceEqDiff, Nat.reduceSub, Nat.reduceMul, ↓reduceIte, reduceCtorEq, np] }; rw [Fw.thn_nx])
  (rw [Fw.seq_ap]; conv => { pattern (Fw.thn _ _); arg 1; simp (disch := first | omega | exact rfl) only [EV0, EV1, EV2, EV3, List.set_cons_zero, List.set_cons_succ, List.length_cons, List.length_nil, List.length_map, Nat.zero_add, List.cons_append, List.nil_append, and_self, and_true, true_and, and_false, false_and, if_true, if_false, decide_true, decide_false, decide_eq_true_eq, Bool.not_true, Bool.not_false, Bool.false_eq_true, Bool.true_eq_false, Bool.not_eq_true, eq_self, not_true_eq_false, not_false_eq_true, List.cons.injEq, Nat.reduceAdd, Nat.reduceLeDiff, Nat.reduceEqDiff, Nat.reduceSub, Nat.reduceMul, ↓reduceIte, reduceCtorEq, nt] }; rw [Fw.thn_nx])
  simp (disch := first | omega | exact rfl) only [EV0, EV1, EV2, EV3, List.set_cons_zero, List.set_cons_succ, List.length_cons, List.length_nil, List.length_map, Nat.zero_add, List.cons_append, List.nil_append, and_self, and_true, true_and, and_false, false_and, if_true, if_false, decide_true, decide_false, decide_eq_true_eq, Bool.not_true, Bool.not_false, Bool.false_eq_true, Bool.true_eq_false, Bool.not_eq_true, eq_self, not_true_eq_false, not_false_eq_true, List.cons.injEq, Nat.reduceAdd, Nat.reduceLeDiff, Nat.reduceEqDiff, Nat.reduceSub, Nat.reduceMul, ↓reduceIte, reduceCtorEq, mi, pw, ld]
theorem place_out {s p : Nat} {h : Hs} (s0 : 2 ≤ s) (s1 : s ≤ 1000000) (s2 : s % 2 = 0) (p1 : p < s) : G_place_after [.str [111, 117, 116], .int (s : Nat), .int (p : Nat), .int (1 : Nat)] h = .ok (.int (mv s 111 p : Nat)) h := by
  have nz := fun h => need_sizeL (h := h) s0 s1 s2
  have o1 : 1 ≤ s := by omega
  have np : ∀ h, G_need_number [.int (p : Nat), .int (0 : Nat), .int (s - 1 : Nat)] h = .ok .non h := fun h => need_number_ok (by omega) (by omega)
  have nt : ∀ h, G_need_number [.int (1 : Nat), .int (0 : Nat), .int (1000000000000000000000000000000 : Nat)] h = .ok .non h := fun h => need_number_ok (by omega) (by decide)
  have pw := fun h => power_ok (e := 1) (m := s - 1) (h := h) (by omega) (by omega) (by decide)
  rw [pw_one] at pw
  have wb : 1 % (s - 1) * (2 % (s - 1)) % (s - 1) ≤ 2 := by
    by_cases c : s = 2
    · subst c; decide
    · rw [Nat.mod_eq_of_lt (show 1 < s - 1 by omega), Nat.mod_eq_of_lt (show 2 < s - 1 by omega), Nat.one_mul, Nat.mod_eq_of_lt (show 2 < s - 1 by omega)]
      omega
  have ev : ¬ p = s - 1 → p * (1 % (s - 1) * (2 % (s - 1)) % (s - 1)) % (s - 1) = mv s 111 p := fun np => by
    unfold mv
    rw [if_neg (by decide)]
    by_cases c : s = 2
    · subst c
      have : p = 0 := by omega
      subst this
      rfl
    · rw [Nat.mod_eq_of_lt (show 1 < s - 1 by omega), Nat.mod_eq_of_lt (show 2 < s - 1 by omega), Nat.one_mul, Nat.mod_eq_of_lt (show 2 < s - 1 by omega)]
      split
      · rw [Nat.mod_eq_of_lt (by omega)]
        omega
      · rw [Nat.mul_comm, two_mod (s := s) (by omega) (by omega)]
        omega
  have el : p = s - 1 → mv s 111 p = p := fun e => by
    unfold mv
    rw [if_neg (by decide), if_neg (by omega)]
    omega
  generalize 1 % (s - 1) * (2 % (s - 1)) % (s - 1) = w at *
  have mi := fun h => mod_out (s := s) (h := h) o1
  have ld : ∀ h, G__led [.str [111, 117, 116], .int (s : Nat), .int (p : Nat), .int (w : Nat)] h = .ok (.int (mv s 111 p : Nat)) h := fun h => by
    refine pure_of rfl (h' := []) ?_ rfl
    simp only [R__led, runB_ap, List.map_cons, List.map_nil, List.length_cons, List.length_nil, Nat.zero_add, Nat.reduceAdd, Nat.reduceSub, List.replicate_succ, List.replicate_zero, List.cons_append, List.nil_append]
    unfold b__led
    (rw [Fw.seq_ap]; conv => { pattern (Fw.thn _ _); arg 1; simp (disch := first | omega | exact rfl) only [EV0, EV1, EV2, EV3, List.set_cons_zero, List.set_cons_succ, List.length_cons, List.length_nil, List.length_map, Nat.zero_add, List.cons_append, List.nil_append, and_self, and_true, true_and, and_false, false_and, if_true, if_false, decide_true, decide_false, decide_eq_true_eq, Bool.not_true, Bool.not_false, Bool.false_eq_true, Bool.true_eq_false, Bool.not_eq_true, eq_self, not_true_eq_false, not_false_eq_true, List.cons.injEq, Nat.reduceAdd, Nat.reduceLeDiff, Nat.reduceEqDiff, Nat.reduceSub, Nat.reduceMul, ↓reduceIte, reduceCtorEq, mi] }; rw [Fw.thn_nx])
    by_cases c : p = s - 1
    · rw [el c]
      simp (disch := first | omega | exact rfl) only [EV0, EV1, EV2, EV3, List.set_cons_zero, List.set_cons_succ, List.length_cons, List.length_nil, List.length_map, Nat.zero_add, List.cons_append, List.nil_append, and_self, and_true, true_and, and_false, false_and, if_true, if_false, decide_true, decide_false, decide_eq_true_eq, Bool.not_true, Bool.not_false, Bool.false_eq_true, Bool.true_eq_false, Bool.not_eq_true, eq_self, not_true_eq_false, not_false_eq_true, List.cons.injEq, Nat.reduceAdd, Nat.reduceLeDiff, Nat.reduceEqDiff, Nat.reduceSub, Nat.reduceMul, ↓reduceIte, reduceCtorEq, seq_ap, ← c]
    · have ev := ev c
      have m0 : 0 < s - 1 := by omega
      simp (disch := first | omega | exact rfl) only [EV0, EV1, EV2, EV3, List.set_cons_zero, List.set_cons_succ, List.length_cons, List.length_nil, List.length_map, Nat.zero_add, List.cons_append, List.nil_append, and_self, and_true, true_and, and_false, false_and, if_true, if_false, decide_true, decide_false, decide_eq_true_eq, Bool.not_true, Bool.not_false, Bool.false_eq_true, Bool.true_eq_false, Bool.not_eq_true, eq_self, not_true_eq_false, not_false_eq_true, List.cons.injEq, Nat.reduceAdd, Nat.reduceLeDiff, Nat.reduceEqDiff, Nat.reduceSub, Nat.reduceMul, ↓reduceIte, reduceCtorEq, seq_ap, c, ev]
  refine pure_of rfl (h' := []) ?_ rfl
  simp only [R_place_after, runB_ap, List.map_cons, List.map_nil, List.length_cons, List.length_nil, Nat.zero_add, Nat.reduceAdd, Nat.reduceSub, List.replicate_succ, List.replicate_zero, List.cons_append, List.nil_append]
  unfold b_place_after
  (rw [Fw.seq_ap]; conv => { pattern (Fw.thn _ _); arg 1; simp (disch := first | omega | exact rfl) only [EV0, EV1, EV2, EV3, List.set_cons_zero, List.set_cons_succ, List.length_cons, List.length_nil, List.length_map, Nat.zero_add, List.cons_append, List.nil_append, and_self, and_true, true_and, and_false, false_and, if_true, if_false, decide_true, decide_false, decide_eq_true_eq, Bool.not_true, Bool.not_false, Bool.false_eq_true, Bool.true_eq_false, Bool.not_eq_true, eq_self, not_true_eq_false, not_false_eq_true, List.cons.injEq, Nat.reduceAdd, Nat.reduceLeDiff, Nat.reduceEqDiff, Nat.reduceSub, Nat.reduceMul, ↓reduceIte, reduceCtorEq, need_out] }; rw [Fw.thn_nx])
  (rw [Fw.seq_ap]; conv => { pattern (Fw.thn _ _); arg 1; simp (disch := first | omega | exact rfl) only [EV0, EV1, EV2, EV3, List.set_cons_zero, List.set_cons_succ, List.length_cons, List.length_nil, List.length_map, Nat.zero_add, List.cons_append, List.nil_append, and_self, and_true, true_and, and_false, false_and, if_true, if_false, decide_true, decide_false, decide_eq_true_eq, Bool.not_true, Bool.not_false, Bool.false_eq_true, Bool.true_eq_false, Bool.not_eq_true, eq_self, not_true_eq_false, not_false_eq_true, List.cons.injEq, Nat.reduceAdd, Nat.reduceLeDiff, Nat.reduceEqDiff, Nat.reduceSub, Nat.reduceMul, ↓reduceIte, reduceCtorEq, nz] }; rw [Fw.thn_nx])
  (rw [Fw.seq_ap]; conv => { pattern (Fw.thn _ _); arg 1; simp (disch := first | omega | exact rfl) only [EV0, EV1, EV2, EV3, List.set_cons_zero, List.set_cons_succ, List.length_cons, List.length_nil, List.length_map, Nat.zero_add, List.cons_append, List.nil_append, and_self, and_true, true_and, and_false, false_and, if_true, if_false, decide_true, decide_false, decide_eq_true_eq, Bool.not_true, Bool.not_false, Bool.false_eq_true, Bool.true_eq_false, Bool.not_eq_true, eq_self, not_true_eq_false, not_false_eq_true, List.cons.injEq, Nat.reduceAdd, Nat.reduceLeDiff, Nat.reduceEqDiff, Nat.reduceSub, Nat.reduceMul, ↓reduceIte, reduceCtorEq, np] }; rw [Fw.thn_nx])
  (rw [Fw.seq_ap]; conv => { pattern (Fw.thn _ _); arg 1; simp (disch := first | omega | exact rfl) only [EV0, EV1, EV2, EV3, List.set_cons_zero, List.set_cons_succ, List.length_cons, List.length_nil, List.length_map, Nat.zero_add, List.cons_append, List.nil_append, and_self, and_true, true_and, and_false, false_and, if_true, if_false, decide_true, decide_false, decide_eq_true_eq, Bool.not_true, Bool.not_false, Bool.false_eq_true, Bool.true_eq_false, Bool.not_eq_true, eq_self, not_true_eq_false, not_false_eq_true, List.cons.injEq, Nat.reduceAdd, Nat.reduceLeDiff, Nat.reduceEqDiff, Nat.reduceSub, Nat.reduceMul, ↓reduceIte, reduceCtorEq, nt] }; rw [Fw.thn_nx])
  simp (disch := first | omega | exact rfl) only [EV0, EV1, EV2, EV3, List.set_cons_zero, List.set_cons_succ, List.length_cons, List.length_nil, List.length_map, Nat.zero_add, List.cons_append, List.nil_append, and_self, and_true, true_and, and_false, false_and, if_true, if_false, decide_true, decide_false, decide_eq_true_eq, Bool.not_true, Bool.not_false, Bool.false_eq_true, Bool.true_eq_false, Bool.not_eq_true, eq_self, not_true_eq_false, not_false_eq_true, List.cons.injEq, Nat.reduceAdd, Nat.reduceLeDiff, Nat.reduceEqDiff, Nat.reduceSub, Nat.reduceMul, ↓reduceIte, reduceCtorEq, mi, pw, ld]
theorem row_to_ok {s p : Nat} {h : Hs} (s0 : 2 ≤ s) (s1 : s ≤ 1000000) (s2 : s % 2 = 0) (p1 : p < s) : G_row_to [.int (s : Nat), .int (p : Nat)] h = .ok (.str (fig p)) h := by
  suffices hh : ∃ h', R_row_to [.int (s : Nat), .int (p : Nat)] [] = .ok (.str (fig p)) h' by
    obtain ⟨h', hh⟩ := hh
    exact pure_of rfl hh rfl
  have nz := fun h => need_sizeL (h := h) s0 s1 s2
  have o1 : 1 ≤ s := by omega
  have np : ∀ h, G_need_number [.int (p : Nat), .int (0 : Nat), .int (s - 1 : Nat)] h = .ok .non h := fun h => need_number_ok (by omega) (by omega)
  simp only [R_row_to, runB_ap, List.map_cons, List.map_nil, List.length_cons, List.length_nil, Nat.zero_add, Nat.reduceAdd, Nat.reduceSub, List.replicate_succ, List.replicate_zero, List.cons_append, List.nil_append]
  unfold b_row_to
  generalize ([] : Hs) = h
  (rw [Fw.seq_ap]; conv => { pattern (Fw.thn _ _); arg 1; simp (disch := first | omega | exact rfl) only [EV0, EV1, EV2, EV3, List.set_cons_zero, List.set_cons_succ, List.length_cons, List.length_nil, List.length_map, Nat.zero_add, List.cons_append, List.nil_append, and_self, and_true, true_and, and_false, false_and, if_true, if_false, decide_true, decide_false, decide_eq_true_eq, Bool.not_true, Bool.not_false, Bool.false_eq_true, Bool.true_eq_false, Bool.not_eq_true, eq_self, not_true_eq_false, not_false_eq_true, List.cons.injEq, Nat.reduceAdd, Nat.reduceLeDiff, Nat.reduceEqDiff, Nat.reduceSub, Nat.reduceMul, ↓reduceIte, reduceCtorEq, nz] }; rw [Fw.thn_nx])
  (rw [Fw.seq_ap]; conv => { pattern (Fw.thn _ _); arg 1; simp (disch := first | omega | exact rfl) only [EV0, EV1, EV2, EV3, List.set_cons_zero, List.set_cons_succ, List.length_cons, List.length_nil, List.length_map, Nat.zero_add, List.cons_append, List.nil_append, and_self, and_true, true_and, and_false, false_and, if_true, if_false, decide_true, decide_false, decide_eq_true_eq, Bool.not_true, Bool.not_false, Bool.false_eq_true, Bool.true_eq_false, Bool.not_eq_true, eq_self, not_true_eq_false, not_false_eq_true, List.cons.injEq, Nat.reduceAdd, Nat.reduceLeDiff, Nat.reduceEqDiff, Nat.reduceSub, Nat.reduceMul, ↓reduceIte, reduceCtorEq, np] }; rw [Fw.thn_nx])
  (rw [Fw.seq_ap]; conv => { pattern (Fw.thn _ _); arg 1; simp (disch := first | omega | exact rfl) only [EV0, EV1, EV2, EV3, List.set_cons_zero, List.set_cons_succ, List.length_cons, List.length_nil, List.length_map, Nat.zero_add, List.cons_append, List.nil_append, and_self, and_true, true_and, and_false, false_and, if_true, if_false, decide_true, decide_false, decide_eq_true_eq, Bool.not_true, Bool.not_false, Bool.false_eq_true, Bool.true_eq_false, Bool.not_eq_true, eq_self, not_true_eq_false, not_false_eq_true, List.cons.injEq, Nat.reduceAdd, Nat.reduceLeDiff, Nat.reduceEqDiff, Nat.reduceSub, Nat.reduceMul, ↓reduceIte, reduceCtorEq, new0] }; rw [Fw.thn_nx])
  (rw [Fw.seq_ap]; conv => { pattern (Fw.thn _ _); arg 1; simp (disch := first | omega | exact rfl) only [EV0, EV1, EV2, EV3, List.set_cons_zero, List.set_cons_succ, List.length_cons, List.length_nil, List.length_map, Nat.zero_add, List.cons_append, List.nil_append, and_self, and_true, true_and, and_false, false_and, if_true, if_false, decide_true, decide_false, decide_eq_true_eq, Bool.not_true, Bool.not_false, Bool.false_eq_true, Bool.true_eq_false, Bool.not_eq_true, eq_self, not_true_eq_false, not_false_eq_true, List.cons.injEq, Nat.reduceAdd, Nat.reduceLeDiff, Nat.reduceEqDiff, Nat.reduceSub, Nat.reduceMul, ↓reduceIte, reduceCtorEq] }; rw [Fw.thn_nx])
  rw [seq_ap]
  generalize hL : whl _ _ _ _ _ = L
  have pb : p < 2 ^ 20 := by
    have : (1000000 : Nat) < 2 ^ 20 := by decide
    omega
  obtain ⟨e', h', rfl, ss, rfl, eh, el⟩ := whl_any hL (fun n en hx => ∃ (ss : List Nat) (left : Nat), en = [some (.int (s : Nat)), some (.int (p : Nat)), some (.loc h.length), some (.int (left : Nat))] ∧ hx[h.length]? = some (.lst (ss.map fun c => Va.str [c])) ∧ fig p = fig left ++ ss.reverse ∧ left < 2 ^ n ∧ ss.length + n = 20) (fun en hx => ∃ (ss : List Nat), en = [some (.int (s : Nat)), some (.int (p : Nat)), some (.loc h.length), some (.int (0 : Nat))] ∧ hx[h.length]? = some (.lst (ss.map fun c => Va.str [c])) ∧ fig p = ss.reverse ∧ ss.length ≤ 20) 20 (by decide)
    ⟨[], p, rfl, by simp, by simp, pb, rfl⟩ (by
    rintro n en hx ⟨ss, left, rfl, eh, ef, lb, ln⟩
    by_cases c : left = 0
    · subst c
      exact .inl ⟨hx, by simp (disch := first | omega | exact rfl) only [EV0, EV1, EV2, EV3, List.set_cons_zero, List.set_cons_succ, List.length_cons, List.length_nil, List.length_map, Nat.zero_add, List.cons_append, List.nil_append, and_self, and_true, true_and, and_false, false_and, if_true, if_false, decide_true, decide_false, decide_eq_true_eq, Bool.not_true, Bool.not_false, Bool.false_eq_true, Bool.true_eq_false, Bool.not_eq_true, eq_self, not_true_eq_false, not_false_eq_true, List.cons.injEq, Nat.reduceAdd, Nat.reduceLeDiff, Nat.reduceEqDiff, Nat.reduceSub, Nat.reduceMul, ↓reduceIte, reduceCtorEq, Nat.lt_irrefl], ss, rfl, eh, by rw [ef, Ro.fig_zero, List.nil_append], by omega⟩
    · have l0 : 0 < left := by omega
      obtain ⟨m, rfl⟩ : ∃ m, n = m + 1 := ⟨n - 1, by
        cases n with
        | zero => simp at lb; omega
        | succ n => omega⟩
      have ap := app_ok (y := .str [bt left]) eh (by rw [List.length_map]; omega)
      have tl := ty_lst eh
      have e1 : (ss.map fun c => Va.str [c]) ++ [.str [bt left]] = (ss ++ [bt left]).map fun c => Va.str [c] := by rw [List.map_append]; rfl
      rw [e1] at ap
      refine .inr ⟨m, hx, _, _, rfl, by simp (disch := first | omega | exact rfl) only [EV0, EV1, EV2, EV3, List.set_cons_zero, List.set_cons_succ, List.length_cons, List.length_nil, List.length_map, Nat.zero_add, List.cons_append, List.nil_append, and_self, and_true, true_and, and_false, false_and, if_true, if_false, decide_true, decide_false, decide_eq_true_eq, Bool.not_true, Bool.not_false, Bool.false_eq_true, Bool.true_eq_false, Bool.not_eq_true, eq_self, not_true_eq_false, not_false_eq_true, List.cons.injEq, Nat.reduceAdd, Nat.reduceLeDiff, Nat.reduceEqDiff, Nat.reduceSub, Nat.reduceMul, ↓reduceIte, reduceCtorEq, l0], ?_, ss ++ [bt left], left / 2, rfl, List.getElem?_set_self (List.getElem?_eq_some_iff.mp eh).1, ?_, ?_, by rw [List.length_append]; simp; omega⟩
      · unfold bt at ap
        by_cases d : left % 2 = 1
        · rw [if_pos d] at ap
          simp (disch := first | omega | exact rfl) only [EV0, EV1, EV2, EV3, List.set_cons_zero, List.set_cons_succ, List.length_cons, List.length_nil, List.length_map, Nat.zero_add, List.cons_append, List.nil_append, and_self, and_true, true_and, and_false, false_and, if_true, if_false, decide_true, decide_false, decide_eq_true_eq, Bool.not_true, Bool.not_false, Bool.false_eq_true, Bool.true_eq_false, Bool.not_eq_true, eq_self, not_true_eq_false, not_false_eq_true, List.cons.injEq, Nat.reduceAdd, Nat.reduceLeDiff, Nat.reduceEqDiff, Nat.reduceSub, Nat.reduceMul, ↓reduceIte, reduceCtorEq, seq_ap, tl, d, ap]
          unfold bt
          rw [if_pos d]
        · rw [if_neg d] at ap
          simp (disch := first | omega | exact rfl) only [EV0, EV1, EV2, EV3, List.set_cons_zero, List.set_cons_succ, List.length_cons, List.length_nil, List.length_map, Nat.zero_add, List.cons_append, List.nil_append, and_self, and_true, true_and, and_false, false_and, if_true, if_false, decide_true, decide_false, decide_eq_true_eq, Bool.not_true, Bool.not_false, Bool.false_eq_true, Bool.true_eq_false, Bool.not_eq_true, eq_self, not_true_eq_false, not_false_eq_true, List.cons.injEq, Nat.reduceAdd, Nat.reduceLeDiff, Nat.reduceEqDiff, Nat.reduceSub, Nat.reduceMul, ↓reduceIte, reduceCtorEq, seq_ap, tl, d, ap]
          unfold bt
          rw [if_neg d]
      · rw [ef, Ro.fig_pos l0, List.reverse_append]
        simp
      · rw [Nat.pow_succ] at lb
        omega)
  rw [thn_nx]
  have rv := rvL_ok eh (by rw [List.length_map]; omega)
  rw [← List.map_reverse] at rv
  have jo := join_one (h := h' ++ [.lst (ss.reverse.map fun c => Va.str [c])]) (last_at h' _) (by rw [List.length_reverse]; omega)
  rw [eh] at *
  rw [el.1]
  exact ⟨_, by simp (disch := first | omega | exact rfl) only [EV0, EV1, EV2, EV3, List.set_cons_zero, List.set_cons_succ, List.length_cons, List.length_nil, List.length_map, Nat.zero_add, List.cons_append, List.nil_append, and_self, and_true, true_and, and_false, false_and, if_true, if_false, decide_true, decide_false, decide_eq_true_eq, Bool.not_true, Bool.not_false, Bool.false_eq_true, Bool.true_eq_false, Bool.not_eq_true, eq_self, not_true_eq_false, not_false_eq_true, List.cons.injEq, Nat.reduceAdd, Nat.reduceLeDiff, Nat.reduceEqDiff, Nat.reduceSub, Nat.reduceMul, ↓reduceIte, reduceCtorEq, ty_str, rv, jo] <;> rfl⟩
end Dk

set_option Elab.async false
set_option linter.all false
set_option maxRecDepth 100000
set_option maxHeartbeats 4000000
set_option autoImplicit false
namespace Lawk57
open PySem PySem.Spec L2 Fw Pg Dk
open PyProof.Rows hiding St
theorem q__law_dice : G__law_dice = R__law_dice := by unfold G__law_dice; rfl
theorem dice_ok {h : Hs} {m top : Nat} (q : Mug h m) (t0 : 0 < top) (t1 : top < 1073741824) : ∃ (r : Nat) (h' : Hs), G__law_dice [.loc m, .int top] h = .ok (.int r) h' ∧ r < top ∧ Kp m h h' := by
  rw [q__law_dice]
  have t2 : (0 : Int) < top := by omega
  have t3 : (top : Int) < 1073741824 := by omega
  obtain ⟨a, b, c, e⟩ := q
  have hl := (List.getElem?_eq_some_iff.mp e).1
  have fin : ∀ (x : Int) (a b c : Int), ∃ (r : Nat) (h' : Hs), (x % top = (r : Int) ∧ h.set m (.lst [.int a, .int b, .int c]) = h') ∧ r < top ∧ Kp m h h' := fun x a' b' c' => by
    have h1 := Int.emod_nonneg x (b := (top : Int)) (by omega)
    have h2 := Int.emod_lt_of_pos x t2
    exact ⟨(x % top).toNat, _, ⟨(Int.toNat_of_nonneg h1).symm, rfl⟩, by omega, Kp.set ⟨a, b, c, e⟩ a' b' c'⟩
  have s2 : ∀ x : Ob, (h.set m x)[m]? = some x := fun x => by simp [hl]
  have i0 : ∀ a b c : Va, kIx (.loc m) (.int 0) (h.set m (.lst [a, b, c])) = .ok a (h.set m (.lst [a, b, c])) := fun a b c => ix_loc0 (s2 _)
  have i1 : ∀ a b c : Va, kIx (.loc m) (.int 1) (h.set m (.lst [a, b, c])) = .ok b (h.set m (.lst [a, b, c])) := fun a b c => ix_loc1 (s2 _)
  have i2 : ∀ a b c : Va, kIx (.loc m) (.int 2) (h.set m (.lst [a, b, c])) = .ok c (h.set m (.lst [a, b, c])) := fun a b c => ix_loc2 (s2 _)
  have k0 : ∀ a b c x : Va, kSet (.loc m) (.int 0) x (h.set m (.lst [a, b, c])) = some (h.set m (.lst [x, b, c])) := fun a b c x => by rw [ks3_0 (s2 _), List.set_set]
  have k1 : ∀ a b c x : Va, kSet (.loc m) (.int 1) x (h.set m (.lst [a, b, c])) = some (h.set m (.lst [a, x, c])) := fun a b c x => by rw [ks3_1 (s2 _), List.set_set]
  have k2 : ∀ x : Va, kSet (.loc m) (.int 2) x h = some (h.set m (.lst [.int a, .int b, x])) := fun x => ks3_2 e
  have m1 : ∀ x y h, 0 ≤ y → y < 200000 → kMul (.int x) (.int y) h = .ok (.int (x * y)) h := fun x y h y0 y1 => by
    simp only [kMul]
    rw [if_pos (.inr ⟨by omega, by omega⟩)]
  have m1 : ∀ x y h, kMul (.int x) (.int (y % 9001 + 16807)) h = .ok (.int (x * (y % 9001 + 16807))) h := fun x y h => m1 _ _ _ (by omega) (by omega)
  have m2 : ∀ y h, kMul (.int 30269) (.int y) h = .ok (.int (30269 * y)) h := fun y h => by simp [kMul]
  by_cases a0 : 0 < a
  · simp [runB_ap, b__law_dice, gSb_ap, ix_loc2 e, i0, i1, i2, k0, k1, k2, m1, m2, kInt, kMod, kFdv, kDvm, a0, t0, t1, t2, t3]
    exact fin _ _ _ _
  · simp [runB_ap, b__law_dice, gSb_ap, ix_loc2 e, i0, i1, i2, k0, k1, k2, m1, m2, kInt, kMod, kFdv, kDvm, a0, t0, t1, t2, t3]
    exact fin _ _ _ _
theorem q__law_of : G__law_of = R__law_of := by unfold G__law_of; rfl
theorem of_ok {h : Hs} {m r : Nat} {xs : List Va} (q : Mug h m) (hr : h[r]? = some (.lst xs)) (rm : r ≠ m) (x0 : 0 < xs.length) (x1 : xs.length < 1073741824) : ∃ (x : Va) (h' : Hs), G__law_of [.loc m, .loc r] h = .ok x h' ∧ x ∈ xs ∧ Kp m h h' := by
  obtain ⟨j, h', e, jl, k⟩ := dice_ok q x0 x1
  refine ⟨xs[j], h', ?_, List.getElem_mem _, k⟩
  rw [q__law_of]
  simp [runB_ap, b__law_of, lsA, hr, e, ix_loc (k.old r _ rm hr) (List.getElem?_eq_getElem jl)]
theorem box_ok {ns : List Int} {k : Nat} {h : Hs} (l : ns.length ≤ 63) : ∃ a b c : Int, G__law_box [.ros (ns.map Va.int), .int k] h = .ok (.loc h.length) (h ++ [.lst [.int a, .int b, .int c]]) := by
  suffices hh : ∃ (a b c : Int) (h' : Hs) (m : Nat), R__law_box [.ros (ns.map Va.int), .int k] [] = .ok (.loc m) h' ∧ h'[m]? = some (.lst [.int a, .int b, .int c]) by
    obtain ⟨a, b, c, h', m, e1, e2⟩ := hh
    refine ⟨a, b, c, pureL_of ?_ e1 e2 rfl⟩
    simp only [lfL, lf, lfL_map (g := Va.int) (fun _ => rfl) ns]
    rfl
  have cell : ∃ c : Int, sIte (sBl (s2 kLt (sVar 1) (sBlt kLen (sCons (sVar 0) sNil)))) (sBlt kInt (sCons (s2 kIx (sVar 0) (sVar 1)) sNil)) (s2 kAdd (s2 kMul (sK (.int 7919)) (sVar 1)) (sK (.int 67))) [some (.ros (ns.map Va.int)), some (.int k), none, none, none, none] [] = .ok (.int c) [] := by
    by_cases q : k < ns.length
    · refine ⟨ns[k], ?_⟩
      have : atI (ns.map Va.int) (k : Int) = some (.int ns[k]) := Fw.atI_nat (by simp [q])
      simp [lsA, q, kIx, gIx, this]
    · exact ⟨7919 * k + 67, by simp [lsA, q, kMul]⟩
  obtain ⟨c, hc⟩ := cell
  have cl : (cutA ns none (some 7)).length ≤ 63 := Nat.le_trans (cut_len _ _ _) l
  have ab : ∃ a : Int, ∀ s : Int, ∀ h z z', sIte (sOr (sBl (s2 kLt (sVar 2) (sK (.int 0)))) (sBl (s2 kGe (sVar 2) (s2 kPow (sK (.int 10)) (sK (.int 18)))))) (sBlt kAbs (sCons (sVar 2) sNil)) (sK (.int 0)) [some (.ros (ns.map Va.int)), some (.int k), some (.int c), some (.int s), z, z'] h = .ok (.int a) h := by
    by_cases q : c < 0
    · exact ⟨-c, fun s h z z' => by simp [q]⟩
    · by_cases q2 : (10 : Int) ^ 18 ≤ c
      · exact ⟨c, fun s h z z' => by
          have q2 : (1000000000000000000 : Int) ≤ c := q2
          simp [q, kPow, q2]⟩
      · exact ⟨0, fun s h z z' => by
          have q2 : ¬ (1000000000000000000 : Int) ≤ c := q2
          simp [q, kPow, q2]⟩
  obtain ⟨a, ha⟩ := ab
  have n0 : newL ((cutA ns none (some 7)).map Va.int) [] = .ok (.loc 0) [.lst ((cutA ns none (some 7)).map Va.int)] := new_ok (by simp; omega)
  have k1 : ∀ x h, kMul (.int 6007) (.int x) h = .ok (.int (6007 * x)) h := fun x h => by simp [kMul]
  simp [-sIte_ap, runB_ap, b__law_box, hc, kSl, cut_map, n0, k1, setAll]
  generalize hL : loop _ _ _ _ _ _ = L
  generalize hB : (cutA ns none (some 7)) = B at *
  obtain ⟨e', h', rfl, s, z, rfl, rfl⟩ := loop_gen hL (fun i e h => ∃ (s : Int) (z : Option Va), e = [some (.ros (ns.map Va.int)), some (.int k), some (.int c), some (.int s), z, none] ∧ h = [.lst (B.map Va.int)])
    ⟨_, _, rfl, rfl⟩ (by
      rintro i e h1 hi ⟨s, z, rfl, rfl⟩
      have hi : i < B.length := by simpa using hi
      have sr : srcL 0 i [.lst (B.map Va.int)] = some (some (.int B[i])) := by
        simp only [srcL, List.getElem?_cons_zero, List.getElem?_map, List.getElem?_eq_getElem hi, Option.map_some]
      generalize B[i] = y at sr
      refine ⟨_, _, _, sr, ?_, (s * 31337 + y % 1000151 + k) % 2147483543, some (.int y), rfl, rfl⟩
      simp [stp, kMul, kInt, kMod]) (by
      rintro e h1 ⟨s, z, rfl, rfl⟩
      simp [srcL])
  have m3 : ∀ y h, kMul (.int y) (.int 40014) h = .ok (.int (y * 40014)) h := fun y h => by simp [kMul]
  simp [-sIte_ap, ha, newL, kInt, kMod, m3]
  exact ⟨_, _, _, _, _, ⟨rfl, rfl⟩, rfl⟩
end Lawk57

set_option Elab.async false
set_option linter.all false
set_option maxRecDepth 100000
set_option maxHeartbeats 4000000
set_option autoImplicit false
namespace Ro
variable {s w h : Nat} {ks k' K F : List Nat}
theorem st1_len (e : st1 s w ks h = some k') : ks.length ≤ k'.length := by
  unfold st1 at e
  split at e
  · split at e
    · cases e; exact Nat.le_refl _
    · split at e
      · cases e; rw [List.length_append]; omega
      · cases e
  · cases e
theorem vis_len (e : vis s ks h = some k') : ks.length ≤ k'.length := by
  unfold vis at e
  obtain ⟨k, a, b⟩ := Option.bind_eq_some_iff.mp e
  exact Nat.le_trans (st1_len a) (st1_len b)
theorem lev_len : ∀ {F ks k' : List Nat}, lev s ks F = some k' → ks.length ≤ k'.length
  | [], _, _, e => by cases e; exact Nat.le_refl _
  | _ :: _, _, _, e => by
    unfold lev at e
    obtain ⟨k, a, b⟩ := Option.bind_eq_some_iff.mp e
    exact Nat.le_trans (vis_len a) (lev_len b)
theorem bfs_len : ∀ {n : Nat} {F ks K : List Nat}, bfs s n ks F = some K → ks.length ≤ K.length
  | 0, _, _, _, e => by
    unfold bfs at e
    split at e
    · cases e; exact Nat.le_refl _
    · cases e
  | n + 1, _, _, _, e => by
    unfold bfs at e
    split at e
    · cases e; exact Nat.le_refl _
    · obtain ⟨k, a, b⟩ := Option.bind_eq_some_iff.mp e
      exact Nat.le_trans (lev_len a) (bfs_len b)
end Ro
namespace Lawk57
open PySem PySem.Spec L2 Fw Pg Dk
open PyProof.Rows hiding St
open Ro (fig bt mv st1 vis lev bfs ledW)
theorem q__law_rows : G__law_rows = R__law_rows := by unfold G__law_rows; rfl
theorem moved_in {s p : Nat} {h : Hs} : G__law_moved [.str [105, 110], .int (s : Nat), .int (p : Nat)] h = .ok (.int (mv s 105 p : Nat)) h := by
  refine pure_of rfl (h' := []) ?_ rfl
  simp only [R__law_moved, runB_ap, List.map_cons, List.map_nil, List.length_cons, List.length_nil, Nat.zero_add, Nat.reduceAdd, Nat.reduceSub, List.replicate_succ, List.replicate_zero, List.cons_append, List.nil_append]
  unfold b__law_moved mv
  have n1 : ¬ ([105, 110] : List Nat) = [111, 117, 116] := by decide
  by_cases c : 2 * p < s
  · simp (disch := first | omega | exact rfl) only [EV0, EV1, EV2, EV3, List.set_cons_zero, List.set_cons_succ, List.length_cons, List.length_nil, List.length_map, Nat.zero_add, List.cons_append, List.nil_append, and_self, and_true, true_and, and_false, false_and, if_true, if_false, decide_true, decide_false, decide_eq_true_eq, Bool.not_true, Bool.not_false, Bool.false_eq_true, Bool.true_eq_false, Bool.not_eq_true, eq_self, not_true_eq_false, not_false_eq_true, List.cons.injEq, Nat.reduceAdd, Nat.reduceLeDiff, Nat.reduceEqDiff, Nat.reduceSub, Nat.reduceMul, ↓reduceIte, reduceCtorEq, seq_ap, n1, trA_bl, c]
  · have le : s ≤ 2 * p := by omega
    simp (disch := first | omega | exact rfl) only [EV0, EV1, EV2, EV3, List.set_cons_zero, List.set_cons_succ, List.length_cons, List.length_nil, List.length_map, Nat.zero_add, List.cons_append, List.nil_append, and_self, and_true, true_and, and_false, false_and, if_true, if_false, decide_true, decide_false, decide_eq_true_eq, Bool.not_true, Bool.not_false, Bool.false_eq_true, Bool.true_eq_false, Bool.not_eq_true, eq_self, not_true_eq_false, not_false_eq_true, List.cons.injEq, Nat.reduceAdd, Nat.reduceLeDiff, Nat.reduceEqDiff, Nat.reduceSub, Nat.reduceMul, ↓reduceIte, reduceCtorEq, seq_ap, n1, trA_bl, c]
theorem moved_out {s p : Nat} {h : Hs} : G__law_moved [.str [111, 117, 116], .int (s : Nat), .int (p : Nat)] h = .ok (.int (mv s 111 p : Nat)) h := by
  refine pure_of rfl (h' := []) ?_ rfl
  simp only [R__law_moved, runB_ap, List.map_cons, List.map_nil, List.length_cons, List.length_nil, Nat.zero_add, Nat.reduceAdd, Nat.reduceSub, List.replicate_succ, List.replicate_zero, List.cons_append, List.nil_append]
  unfold b__law_moved mv
  have n1 : ¬ (111 : Nat) = 105 := by decide
  by_cases c : 2 * p < s
  · simp (disch := first | omega | exact rfl) only [EV0, EV1, EV2, EV3, List.set_cons_zero, List.set_cons_succ, List.length_cons, List.length_nil, List.length_map, Nat.zero_add, List.cons_append, List.nil_append, and_self, and_true, true_and, and_false, false_and, if_true, if_false, decide_true, decide_false, decide_eq_true_eq, Bool.not_true, Bool.not_false, Bool.false_eq_true, Bool.true_eq_false, Bool.not_eq_true, eq_self, not_true_eq_false, not_false_eq_true, List.cons.injEq, Nat.reduceAdd, Nat.reduceLeDiff, Nat.reduceEqDiff, Nat.reduceSub, Nat.reduceMul, ↓reduceIte, reduceCtorEq, seq_ap, trA_bl, c, n1]
  · have le : s ≤ 2 * p := by omega
    simp (disch := first | omega | exact rfl) only [EV0, EV1, EV2, EV3, List.set_cons_zero, List.set_cons_succ, List.length_cons, List.length_nil, List.length_map, Nat.zero_add, List.cons_append, List.nil_append, and_self, and_true, true_and, and_false, false_and, if_true, if_false, decide_true, decide_false, decide_eq_true_eq, Bool.not_true, Bool.not_false, Bool.false_eq_true, Bool.true_eq_false, Bool.not_eq_true, eq_self, not_true_eq_false, not_false_eq_true, List.cons.injEq, Nat.reduceAdd, Nat.reduceLeDiff, Nat.reduceEqDiff, Nat.reduceSub, Nat.reduceMul, ↓reduceIte, reduceCtorEq, seq_ap, trA_bl, c, n1]
theorem figures_ok {p : Nat} {h : Hs} (pb : p < 2 ^ 20) : G__law_figures [.int (p : Nat)] h = .ok (.str (fig p)) h := by
  suffices hh : ∃ h', R__law_figures [.int (p : Nat)] [] = .ok (.str (fig p)) h' by
    obtain ⟨h', hh⟩ := hh
    exact pure_of rfl hh rfl
  simp only [R__law_figures, runB_ap, List.map_cons, List.map_nil, List.length_cons, List.length_nil, Nat.zero_add, Nat.reduceAdd, Nat.reduceSub, List.replicate_succ, List.replicate_zero, List.cons_append, List.nil_append]
  unfold b__law_figures
  generalize ([] : Hs) = h
  (rw [Fw.seq_ap]; conv => { pattern (Fw.thn _ _); arg 1; simp (disch := first | omega | exact rfl) only [EV0, EV1, EV2, EV3, List.set_cons_zero, List.set_cons_succ, List.length_cons, List.length_nil, List.length_map, Nat.zero_add, List.cons_append, List.nil_append, and_self, and_true, true_and, and_false, false_and, if_true, if_false, decide_true, decide_false, decide_eq_true_eq, Bool.not_true, Bool.not_false, Bool.false_eq_true, Bool.true_eq_false, Bool.not_eq_true, eq_self, not_true_eq_false, not_false_eq_true, List.cons.injEq, Nat.reduceAdd, Nat.reduceLeDiff, Nat.reduceEqDiff, Nat.reduceSub, Nat.reduceMul, ↓reduceIte, reduceCtorEq] }; rw [Fw.thn_nx])
  rw [seq_ap]
  generalize hL : whl _ _ _ _ _ = L
  obtain ⟨e', h', rfl, rfl⟩ := whl_any hL (fun n en hx => ∃ (ss : List Nat) (left : Nat), en = [some (.int (left : Nat)), some (.str ss)] ∧ fig p = fig left ++ ss ∧ left < 2 ^ n ∧ ss.length + n = 20) (fun en hx => en = [some (.int (0 : Nat)), some (.str (fig p))]) 20 (by decide)
    ⟨[], p, rfl, by simp, pb, rfl⟩ (by
    rintro n en hx ⟨ss, left, rfl, ef, lb, ln⟩
    by_cases c : left = 0
    · subst c
      rw [Ro.fig_zero, List.nil_append] at ef
      exact .inl ⟨hx, by simp (disch := first | omega | exact rfl) only [EV0, EV1, EV2, EV3, List.set_cons_zero, List.set_cons_succ, List.length_cons, List.length_nil, List.length_map, Nat.zero_add, List.cons_append, List.nil_append, and_self, and_true, true_and, and_false, false_and, if_true, if_false, decide_true, decide_false, decide_eq_true_eq, Bool.not_true, Bool.not_false, Bool.false_eq_true, Bool.true_eq_false, Bool.not_eq_true, eq_self, not_true_eq_false, not_false_eq_true, List.cons.injEq, Nat.reduceAdd, Nat.reduceLeDiff, Nat.reduceEqDiff, Nat.reduceSub, Nat.reduceMul, ↓reduceIte, reduceCtorEq, Nat.lt_irrefl], by rw [ef]⟩
    · have l0 : 0 < left := by omega
      obtain ⟨m, rfl⟩ : ∃ m, n = m + 1 := ⟨n - 1, by
        cases n with
        | zero => simp at lb; omega
        | succ n => omega⟩
      have nw : newL [Va.str [111], Va.str [105]] hx = .ok (.loc hx.length) (hx ++ [.lst [Va.str [111], Va.str [105]]]) := new2
      have ix : kIx (.loc hx.length) (.int (left % 2 : Nat)) (hx ++ [.lst [Va.str [111], Va.str [105]]]) = .ok (.str [bt left]) (hx ++ [.lst [Va.str [111], Va.str [105]]]) := ix_loc (last_at hx _) (by
        unfold bt
        rcases (show left % 2 = 0 ∨ left % 2 = 1 by omega) with d | d
        · rw [d]; rfl
        · rw [d]; rfl)
      have ad := fun h => as_ok (a := [bt left]) (b := ss) (h := h) (by simp; omega)
      refine .inr ⟨m, hx, _, _, rfl, by simp (disch := first | omega | exact rfl) only [EV0, EV1, EV2, EV3, List.set_cons_zero, List.set_cons_succ, List.length_cons, List.length_nil, List.length_map, Nat.zero_add, List.cons_append, List.nil_append, and_self, and_true, true_and, and_false, false_and, if_true, if_false, decide_true, decide_false, decide_eq_true_eq, Bool.not_true, Bool.not_false, Bool.false_eq_true, Bool.true_eq_false, Bool.not_eq_true, eq_self, not_true_eq_false, not_false_eq_true, List.cons.injEq, Nat.reduceAdd, Nat.reduceLeDiff, Nat.reduceEqDiff, Nat.reduceSub, Nat.reduceMul, ↓reduceIte, reduceCtorEq, l0], by simp (disch := first | omega | exact rfl) only [EV0, EV1, EV2, EV3, List.set_cons_zero, List.set_cons_succ, List.length_cons, List.length_nil, List.length_map, Nat.zero_add, List.cons_append, List.nil_append, and_self, and_true, true_and, and_false, false_and, if_true, if_false, decide_true, decide_false, decide_eq_true_eq, Bool.not_true, Bool.not_false, Bool.false_eq_true, Bool.true_eq_false, Bool.not_eq_true, eq_self, not_true_eq_false, not_false_eq_true, List.cons.injEq, Nat.reduceAdd, Nat.reduceLeDiff, Nat.reduceEqDiff, Nat.reduceSub, Nat.reduceMul, ↓reduceIte, reduceCtorEq, nw, ix, ad] <;> rfl, [bt left] ++ ss, left / 2, rfl, ?_, ?_, by rw [List.length_append]; simp; omega⟩
      · rw [ef, Ro.fig_pos l0]
        simp
      · rw [Nat.pow_succ] at lb
        omega)
  rw [thn_nx]
  exact ⟨h', by simp (disch := first | omega | exact rfl) only [EV0, EV1, EV2, EV3, List.set_cons_zero, List.set_cons_succ, List.length_cons, List.length_nil, List.length_map, Nat.zero_add, List.cons_append, List.nil_append, and_self, and_true, true_and, and_false, false_and, if_true, if_false, decide_true, decide_false, decide_eq_true_eq, Bool.not_true, Bool.not_false, Bool.false_eq_true, Bool.true_eq_false, Bool.not_eq_true, eq_self, not_true_eq_false, not_false_eq_true, List.cons.injEq, Nat.reduceAdd, Nat.reduceLeDiff, Nat.reduceEqDiff, Nat.reduceSub, Nat.reduceMul, ↓reduceIte, reduceCtorEq] <;> rfl⟩
theorem led_ok' {s : Nat} {ws : List Nat} {h : Hs} (s0 : 2 ≤ s) (s1 : s ≤ 1000000) (s2 : s % 2 = 0) (wl : ws.length ≤ 100) (ww : ∀ c ∈ ws, c = 105 ∨ c = 111) : G__law_led [.int (s : Nat), .str ws] h = .ok (.int (ledW s ws : Nat)) h := by
  suffices hh : ∃ h', R__law_led [.int (s : Nat), .str ws] [] = .ok (.int (ledW s ws : Nat)) h' by
    obtain ⟨h', hh⟩ := hh
    exact pure_of rfl hh rfl
  simp only [R__law_led, runB_ap, List.map_cons, List.map_nil, List.length_cons, List.length_nil, Nat.zero_add, Nat.reduceAdd, Nat.reduceSub, List.replicate_succ, List.replicate_zero, List.cons_append, List.nil_append]
  unfold b__law_led
  generalize ([] : Hs) = h
  have it := fun h => itV_str ws h (by omega)
  (rw [Fw.seq_ap]; conv => { pattern (Fw.thn _ _); arg 1; simp (disch := first | omega | exact rfl) only [EV0, EV1, EV2, EV3, List.set_cons_zero, List.set_cons_succ, List.length_cons, List.length_nil, List.length_map, Nat.zero_add, List.cons_append, List.nil_append, and_self, and_true, true_and, and_false, false_and, if_true, if_false, decide_true, decide_false, decide_eq_true_eq, Bool.not_true, Bool.not_false, Bool.false_eq_true, Bool.true_eq_false, Bool.not_eq_true, eq_self, not_true_eq_false, not_false_eq_true, List.cons.injEq, Nat.reduceAdd, Nat.reduceLeDiff, Nat.reduceEqDiff, Nat.reduceSub, Nat.reduceMul, ↓reduceIte, reduceCtorEq] }; rw [Fw.thn_nx])
  (rw [Fw.seq_ap]; conv => { pattern (Fw.thn _ _); arg 1; simp (disch := first | omega | exact rfl) only [EV0, EV1, EV2, EV3, List.set_cons_zero, List.set_cons_succ, List.length_cons, List.length_nil, List.length_map, Nat.zero_add, List.cons_append, List.nil_append, and_self, and_true, true_and, and_false, false_and, if_true, if_false, decide_true, decide_false, decide_eq_true_eq, Bool.not_true, Bool.not_false, Bool.false_eq_true, Bool.true_eq_false, Bool.not_eq_true, eq_self, not_true_eq_false, not_false_eq_true, List.cons.injEq, Nat.reduceAdd, Nat.reduceLeDiff, Nat.reduceEqDiff, Nat.reduceSub, Nat.reduceMul, ↓reduceIte, reduceCtorEq, it] })
  generalize hL : loop _ _ _ _ _ _ = L
  obtain ⟨e', h', rfl, z3, rfl⟩ := loop_tx hL rfl (fun i en hx => ∃ (z3 : Option Va), en = [some (.int (s : Nat)), some (.str ws), some (.int (ledW s (ws.take i) : Nat)), z3])
    ⟨none, rfl⟩ (by
    rintro i c en hx ec ⟨z3, rfl⟩
    have tk : ws.take (i + 1) = ws.take i ++ [c] := by rw [List.take_add_one, ec]; rfl
    have ll := Ro.ledW_lt s2 (by omega) (ws.take i)
    rw [tk, Ro.ledW_app]
    rcases ww c (List.mem_of_getElem? ec) with rfl | rfl
    · have pl := fun h => place_in (h := h) s0 s1 s2 ll
      (apply Exists.intro; apply Exists.intro; apply And.intro; focus (simp (disch := first | omega | exact rfl) only [EV0, EV1, EV2, EV3, List.set_cons_zero, List.set_cons_succ, List.length_cons, List.length_nil, List.length_map, Nat.zero_add, List.cons_append, List.nil_append, and_self, and_true, true_and, and_false, false_and, if_true, if_false, decide_true, decide_false, decide_eq_true_eq, Bool.not_true, Bool.not_false, Bool.false_eq_true, Bool.true_eq_false, Bool.not_eq_true, eq_self, not_true_eq_false, not_false_eq_true, List.cons.injEq, Nat.reduceAdd, Nat.reduceLeDiff, Nat.reduceEqDiff, Nat.reduceSub, Nat.reduceMul, ↓reduceIte, reduceCtorEq, stp_ap, gNm_ap, pl] <;> rfl))
      exact ⟨_, rfl⟩
    · have pl := fun h => place_out (h := h) s0 s1 s2 ll
      have n1 : ¬ ([111] : List Nat) = [105] := by decide
      (apply Exists.intro; apply Exists.intro; apply And.intro; focus (simp (disch := first | omega | exact rfl) only [EV0, EV1, EV2, EV3, List.set_cons_zero, List.set_cons_succ, List.length_cons, List.length_nil, List.length_map, Nat.zero_add, List.cons_append, List.nil_append, and_self, and_true, true_and, and_false, false_and, if_true, if_false, decide_true, decide_false, decide_eq_true_eq, Bool.not_true, Bool.not_false, Bool.false_eq_true, Bool.true_eq_false, Bool.not_eq_true, eq_self, not_true_eq_false, not_false_eq_true, List.cons.injEq, Nat.reduceAdd, Nat.reduceLeDiff, Nat.reduceEqDiff, Nat.reduceSub, Nat.reduceMul, ↓reduceIte, reduceCtorEq, stp_ap, gNm_ap, n1, pl] <;> rfl))
      exact ⟨_, rfl⟩)
  rw [thn_nx, List.take_length]
  exact ⟨h', by simp (disch := first | omega | exact rfl) only [EV0, EV1, EV2, EV3, List.set_cons_zero, List.set_cons_succ, List.length_cons, List.length_nil, List.length_map, Nat.zero_add, List.cons_append, List.nil_append, and_self, and_true, true_and, and_false, false_and, if_true, if_false, decide_true, decide_false, decide_eq_true_eq, Bool.not_true, Bool.not_false, Bool.false_eq_true, Bool.true_eq_false, Bool.not_eq_true, eq_self, not_true_eq_false, not_false_eq_true, List.cons.injEq, Nat.reduceAdd, Nat.reduceLeDiff, Nat.reduceEqDiff, Nat.reduceSub, Nat.reduceMul, ↓reduceIte, reduceCtorEq] <;> rfl⟩
def kv (k : Nat) : Va × Va := (.int (k : Nat), .str (fig k))
theorem dGet_kv (ks : List Nat) (t : Nat) : dGet (ks.map kv) (.inl (t : Int)) = if t ∈ ks then some (.str (fig t)) else none := by
  induction ks with
  | nil => rfl
  | cons k ks ih =>
    show (if keyA (.int (k : Nat)) = some (.inl (t : Int)) then some (.str (fig k)) else dGet (ks.map kv) (.inl (t : Int))) = _
    rw [ih]
    have : (keyA (.int (k : Nat)) = some (.inl (t : Int))) ↔ k = t := by
      simp [keyA]
      omega
    by_cases c : k = t
    · subst c
      rw [if_pos (this.mpr rfl), if_pos List.mem_cons_self]
    · rw [if_neg (fun w => c (this.mp w))]
      by_cases d : t ∈ ks
      · rw [if_pos d, if_pos (List.mem_cons_of_mem _ d)]
      · rw [if_neg d, if_neg (fun w => by
          rcases List.mem_cons.mp w with w | w
          · exact c w.symm
          · exact d w)]
theorem dPut_kv {ks : List Nat} {t : Nat} (n : t ∉ ks) : dPut (ks.map kv) (.inl (t : Int)) (.int (t : Nat)) (.str (fig t)) = (ks ++ [t]).map kv := by
  unfold dPut
  rw [if_neg ?_]
  · rw [List.map_append]; rfl
  · intro w
    rw [List.any_eq_true] at w
    obtain ⟨p, hp, e⟩ := w
    obtain ⟨k, hk, rfl⟩ := List.mem_map.mp hp
    have e := of_decide_eq_true e
    have e : ((k : Nat) : Int) = t := by simpa [kv, keyA] using e
    have : k = t := by omega
    exact n (this ▸ hk)
theorem fwdO_k {α β : Type} (x : α) (h : Hs) (k : α → Hs → Rs β) : fwdO (.ok x h) k = k x h := (rfl)
def rem (s x : Nat) : Nat → List Nat → Option (List Nat)
  | 0, ks => vis s ks x
  | 1, ks => st1 s 111 ks x
  | _, ks => some ks
theorem rows_ok {s : Nat} {h : Hs} {K : List Nat} (s1 : s ≤ 64) (e : bfs s 8 [0] [0] = some K) (Kl : K.length = s) (s0 : 0 < s) : ∃ m h', G__law_rows [.int (s : Nat)] h = .ok (.loc m) h' ∧ (∀ (i : Nat) (o : Ob), h[i]? = some o → h'[i]? = some o) ∧ h.length ≤ m ∧ h'[m]? = some (.dct (K.map kv)) := by
  rw [q__law_rows]
  simp only [R__law_rows, runB_ap, List.map_cons, List.map_nil, List.length_cons, List.length_nil, Nat.zero_add, Nat.reduceAdd, Nat.reduceSub, List.replicate_succ, List.replicate_zero, List.cons_append, List.nil_append]
  unfold b__law_rows
  have ds : ∀ e, sDsp [((sK (.int (0 : Nat))), (sK (.str [])))] e h = .ok (.loc h.length) (h ++ [.dct ([0].map kv)]) := fun e => by
    simp [sDsp, sPrs, dspEnd, Fw.putAll, keyA, dPut, kv, Ro.fig_zero]
  have nw : newL [Va.int (0 : Nat)] (h ++ [.dct ([0].map kv)]) = .ok (.loc (h ++ [Ob.dct ([0].map kv)]).length) (h ++ [.dct ([0].map kv)] ++ [.lst [Va.int (0 : Nat)]]) := new1
  (rw [Fw.seq_ap]; conv => { pattern (Fw.thn _ _); arg 1; simp (disch := first | omega | exact rfl) only [EV0, EV1, EV2, EV3, List.set_cons_zero, List.set_cons_succ, List.length_cons, List.length_nil, List.length_map, Nat.zero_add, List.cons_append, List.nil_append, and_self, and_true, true_and, and_false, false_and, if_true, if_false, decide_true, decide_false, decide_eq_true_eq, Bool.not_true, Bool.not_false, Bool.false_eq_true, Bool.true_eq_false, Bool.not_eq_true, eq_self, not_true_eq_false, not_false_eq_true, List.cons.injEq, Nat.reduceAdd, Nat.reduceLeDiff, Nat.reduceEqDiff, Nat.reduceSub, Nat.reduceMul, ↓reduceIte, reduceCtorEq, ds, nw] }; rw [Fw.thn_nx])
  rw [seq_ap]
  have d0 : (h ++ [Ob.dct ([0].map kv)] ++ [Ob.lst [Va.int (0 : Nat)]])[h.length]? = some (.dct ([0].map kv)) := app_at (last_at _ _)
  have f0 := last_at (h ++ [Ob.dct ([0].map kv)]) (Ob.lst [Va.int (0 : Nat)])
  have dl : h.length < (h ++ [Ob.dct ([0].map kv)]).length := by simp
  have k0 : ∀ (i : Nat) (o : Ob), h[i]? = some o → (h ++ [Ob.dct ([0].map kv)] ++ [Ob.lst [Va.int (0 : Nat)]])[i]? = some o := fun i o e => app_at (app_at e)
  generalize (h ++ [Ob.dct ([0].map kv)]).length = fl at *
  generalize h ++ [Ob.dct ([0].map kv)] ++ [Ob.lst [Va.int (0 : Nat)]] = h1 at *
  generalize hd : h.length = d at *
  generalize hL : whl _ _ _ _ _ = L
  obtain ⟨e', h', rfl, z2, z3, z4, z5, z6, rfl, kk, dd⟩ := whl_any hL (fun n en hx => ∃ (ks F : List Nat) (fl : Nat) (z3 z4 z5 z6 : Option Va), en = [some (.int (s : Nat)), some (.loc d), some (.loc fl), z3, z4, z5, z6] ∧ d ≠ fl ∧ (∀ (i : Nat) (o : Ob), h[i]? = some o → hx[i]? = some o) ∧ hx[d]? = some (.dct (ks.map kv)) ∧ hx[fl]? = some (.lst (F.map vN)) ∧ bfs s n ks F = some K) (fun en hx => ∃ (z2 z3 z4 z5 z6 : Option Va), en = [some (.int (s : Nat)), some (.loc d), z2, z3, z4, z5, z6] ∧ (∀ (i : Nat) (o : Ob), h[i]? = some o → hx[i]? = some o) ∧ hx[d]? = some (.dct (K.map kv))) 8 (by decide)
    ⟨[0], [0], fl, none, none, none, none, rfl, by omega, k0, d0, f0, e⟩ (by
    rintro n en hx ⟨ks, F, fl, z3, z4, z5, z6, rfl, df, kk, hd', hf, eb⟩
    have dn := (List.getElem?_eq_some_iff.mp hd').1
    have fn := (List.getElem?_eq_some_iff.mp hf).1
    have ne := ne_lN (ys := []) (app_at (r := [Ob.lst []]) hf) (last_at hx (Ob.lst []))
    have kl := Ro.bfs_len eb
    by_cases c : F = []
    · subst c
      have : ks = K := by
        cases n with
        | zero => unfold bfs at eb; rw [if_pos rfl] at eb; exact Option.some.inj eb
        | succ n => unfold bfs at eb; rw [if_pos rfl] at eb; exact Option.some.inj eb
      subst this
      refine .inl ⟨hx ++ [Ob.lst []], by simp (disch := first | omega | exact rfl) only [EV0, EV1, EV2, EV3, List.set_cons_zero, List.set_cons_succ, List.length_cons, List.length_nil, List.length_map, Nat.zero_add, List.cons_append, List.nil_append, and_self, and_true, true_and, and_false, false_and, if_true, if_false, decide_true, decide_false, decide_eq_true_eq, Bool.not_true, Bool.not_false, Bool.false_eq_true, Bool.true_eq_false, Bool.not_eq_true, eq_self, not_true_eq_false, not_false_eq_true, List.cons.injEq, Nat.reduceAdd, Nat.reduceLeDiff, Nat.reduceEqDiff, Nat.reduceSub, Nat.reduceMul, ↓reduceIte, reduceCtorEq, new0, ne], _, _, _, _, _, rfl, ?_, ?_⟩
      · exact fun i o e => app_at (kk i o e)
      · exact app_at hd'
    · obtain ⟨m, rfl⟩ : ∃ m, n = m + 1 := ⟨n - 1, by
        cases n with
        | zero => unfold bfs at eb; rw [if_neg c] at eb; cases eb
        | succ n => omega⟩
      unfold bfs at eb
      rw [if_neg c] at eb
      obtain ⟨kE, el, eb⟩ := Option.bind_eq_some_iff.mp eb
      have kEl := Ro.bfs_len eb
      have nF : decide (F = []) = false := decide_eq_false c
      have ne : kNe (.loc fl) (.loc hx.length) (hx ++ [Ob.lst []]) = .ok (.bl true) (hx ++ [Ob.lst []]) := by
        rw [nF] at ne
        exact ne
      have nwx : newL [] hx = .ok (.loc hx.length) (hx ++ [Ob.lst []]) := new0
      have hd1 := app_at (r := [Ob.lst []]) hd'
      have hf1 := app_at (r := [Ob.lst []]) hf
      have kk1 : ∀ (i : Nat) (o : Ob), h[i]? = some o → (hx ++ [Ob.lst []])[i]? = some o := fun i o e => app_at (kk i o e)
      have dn1 : d < (hx ++ [Ob.lst []]).length := by simp; omega
      have fn1 : fl < (hx ++ [Ob.lst []]).length := by simp; omega
      refine .inr ⟨m, hx ++ [Ob.lst []], ?_⟩
      generalize hx ++ [Ob.lst []] = h2 at *
      have nw2 : newL [] h2 = .ok (.loc h2.length) (h2 ++ [Ob.lst []]) := new0
      have hd2 := app_at (r := [Ob.lst []]) hd1
      have hf2 := app_at (r := [Ob.lst []]) hf1
      have hl2 := last_at h2 (Ob.lst [])
      have kk2 : ∀ (i : Nat) (o : Ob), h[i]? = some o → (h2 ++ [Ob.lst []])[i]? = some o := fun i o e => app_at (kk1 i o e)
      have itF := itV_loc hf2
      rw [List.length_map] at itF
      have hlt : ∀ i, i < h.length → i ≠ h2.length := fun i hi w => by omega
      generalize h2.length = g at *
      generalize h2 ++ [Ob.lst []] = h3 at *
      suffices hh : ∃ e' h', (seq (sSet 3 (sLst sNil)) (seq (sFor (sItr (sVar 2)) (gNm 4) (sFor (sItr (sLst (sCons (sK (.str [105])) (sCons (sK (.str [111])) sNil)))) (gNm 5) (seq (sSet 6 (sCall G__law_moved 3 [0, 1, 2] (sCons (sIte (sBl (s2 kEq (sVar 5) (sK (.str [105])))) (sK (.str [105, 110])) (sK (.str [111, 117, 116]))) (sCons (sVar 0) (sCons (sVar 4) sNil))))) (sIf (sBl (s2 (kInX true) (sVar 6) (sVar 1))) (seq (sAsg (s2 kAdd (s2 kIxD (sVar 1) (sVar 4)) (sVar 5)) (gSbD (sVar 1) (sVar 6))) (sDrop (sMth "list" kApp (sVar 3) (sCons (sVar 6) sNil)))) skip)))) (sSet 2 (sVar 3)))) [some (.int (s : Nat)), some (.loc d), some (.loc fl), z3, z4, z5, z6] h2 = .nx e' h' ∧ ∃ (ks F : List Nat) (fl : Nat) (z3 z4 z5 z6 : Option Va), e' = [some (.int (s : Nat)), some (.loc d), some (.loc fl), z3, z4, z5, z6] ∧ d ≠ fl ∧ (∀ (i : Nat) (o : Ob), h[i]? = some o → h'[i]? = some o) ∧ h'[d]? = some (.dct (ks.map kv)) ∧ h'[fl]? = some (.lst (F.map vN)) ∧ bfs s m ks F = some K by
        obtain ⟨e', h', a, b⟩ := hh
        exact ⟨e', h', rfl, by simp (disch := first | omega | exact rfl) only [EV0, EV1, EV2, EV3, List.set_cons_zero, List.set_cons_succ, List.length_cons, List.length_nil, List.length_map, Nat.zero_add, List.cons_append, List.nil_append, and_self, and_true, true_and, and_false, false_and, if_true, if_false, decide_true, decide_false, decide_eq_true_eq, Bool.not_true, Bool.not_false, Bool.false_eq_true, Bool.true_eq_false, Bool.not_eq_true, eq_self, not_true_eq_false, not_false_eq_true, List.cons.injEq, Nat.reduceAdd, Nat.reduceLeDiff, Nat.reduceEqDiff, Nat.reduceSub, Nat.reduceMul, ↓reduceIte, reduceCtorEq, nwx, ne], a, b⟩
      (rw [Fw.seq_ap]; conv => { pattern (Fw.thn _ _); arg 1; simp (disch := first | omega | exact rfl) only [EV0, EV1, EV2, EV3, List.set_cons_zero, List.set_cons_succ, List.length_cons, List.length_nil, List.length_map, Nat.zero_add, List.cons_append, List.nil_append, and_self, and_true, true_and, and_false, false_and, if_true, if_false, decide_true, decide_false, decide_eq_true_eq, Bool.not_true, Bool.not_false, Bool.false_eq_true, Bool.true_eq_false, Bool.not_eq_true, eq_self, not_true_eq_false, not_false_eq_true, List.cons.injEq, Nat.reduceAdd, Nat.reduceLeDiff, Nat.reduceEqDiff, Nat.reduceSub, Nat.reduceMul, ↓reduceIte, reduceCtorEq, nw2] }; rw [Fw.thn_nx])
      (rw [Fw.seq_ap]; conv => { pattern (Fw.thn _ _); arg 1; simp (disch := first | omega | exact rfl) only [EV0, EV1, EV2, EV3, List.set_cons_zero, List.set_cons_succ, List.length_cons, List.length_nil, List.length_map, Nat.zero_add, List.cons_append, List.nil_append, and_self, and_true, true_and, and_false, false_and, if_true, if_false, decide_true, decide_false, decide_eq_true_eq, Bool.not_true, Bool.not_false, Bool.false_eq_true, Bool.true_eq_false, Bool.not_eq_true, eq_self, not_true_eq_false, not_false_eq_true, List.cons.injEq, Nat.reduceAdd, Nat.reduceLeDiff, Nat.reduceEqDiff, Nat.reduceSub, Nat.reduceMul, ↓reduceIte, reduceCtorEq, itF] })
      generalize hL2 : loop _ _ _ _ _ _ = L2
      obtain ⟨e', h', rfl, k', z4, z5, z6, rfl, kk', dd', ff', ll', e0, le'⟩ := loop_ls (xs := F.map vN) hL2 (by rw [List.length_map]) (fun j en hx => ∃ (k' : List Nat) (z4 z5 z6 : Option Va), en = [some (.int (s : Nat)), some (.loc d), some (.loc fl), some (.loc g), z4, z5, z6] ∧ (∀ (i : Nat) (o : Ob), h[i]? = some o → hx[i]? = some o) ∧ hx[d]? = some (.dct (k'.map kv)) ∧ hx[fl]? = some (.lst (F.map vN)) ∧ hx[g]? = some (.lst ((k'.drop ks.length).map vN)) ∧ ks.length ≤ k'.length ∧ lev s k' (F.drop j) = some kE)
        ⟨ks, _, _, _, rfl, kk2, hd2, hf2, by simpa using hl2, Nat.le_refl _, by simpa using el⟩ (fun j en hx ⟨_, _, _, _, _, _, _, w, _⟩ => w) (by
        rintro j x en hx ex ⟨k', z4, z5, z6, rfl, kk', dd', ff', ll', e0, le'⟩
        have jl := (List.getElem?_eq_some_iff.mp ex).1
        rw [List.length_map] at jl
        rw [List.getElem?_map] at ex
        obtain ⟨p, ep, rfl⟩ := Option.map_eq_some_iff.mp ex
        obtain ⟨jl', ep'⟩ := List.getElem?_eq_some_iff.mp ep
        rw [List.drop_eq_getElem_cons jl, ep'] at le'
        unfold lev at le'
        obtain ⟨k2, ev, le'⟩ := Option.bind_eq_some_iff.mp le'
        have k2l := Ro.lev_len le'
        have nwW : newL [Va.str [105], Va.str [111]] hx = .ok (.loc hx.length) (hx ++ [Ob.lst [Va.str [105], Va.str [111]]]) := new2
        have W0 := last_at hx (Ob.lst [Va.str [105], Va.str [111]])
        have itW := itV_loc W0
        have dd1 := app_at (r := [Ob.lst [Va.str [105], Va.str [111]]]) dd'
        have ff1 := app_at (r := [Ob.lst [Va.str [105], Va.str [111]]]) ff'
        have ll1 := app_at (r := [Ob.lst [Va.str [105], Va.str [111]]]) ll'
        have kk3 : ∀ (i : Nat) (o : Ob), h[i]? = some o → (hx ++ [Ob.lst [Va.str [105], Va.str [111]]])[i]? = some o := fun i o e => app_at (kk' i o e)
        have dW := (List.getElem?_eq_some_iff.mp dd').1
        have gW := (List.getElem?_eq_some_iff.mp ll').1
        generalize hx.length = w at *
        generalize hx ++ [Ob.lst [Va.str [105], Va.str [111]]] = h4 at *
        have vp : vN p = .int (p : Nat) := rfl
        simp (disch := first | omega | exact rfl) only [EV0, EV1, EV2, EV3, List.set_cons_zero, List.set_cons_succ, List.length_cons, List.length_nil, List.length_map, Nat.zero_add, List.cons_append, List.nil_append, and_self, and_true, true_and, and_false, false_and, if_true, if_false, decide_true, decide_false, decide_eq_true_eq, Bool.not_true, Bool.not_false, Bool.false_eq_true, Bool.true_eq_false, Bool.not_eq_true, eq_self, not_true_eq_false, not_false_eq_true, List.cons.injEq, Nat.reduceAdd, Nat.reduceLeDiff, Nat.reduceEqDiff, Nat.reduceSub, Nat.reduceMul, ↓reduceIte, reduceCtorEq, stp_ap, gNm_ap, nwW, itW, vp]
        generalize hL3 : loop _ _ _ _ _ _ = L3
        obtain ⟨e', h', rfl, k3, z5, z6, rfl, kk3, dd3, ff3, ll3, W3, e3, r3⟩ := loop_ls (xs := [Va.str [105], Va.str [111]]) hL3 rfl (fun i en hx => ∃ (k3 : List Nat) (z5 z6 : Option Va), en = [some (.int (s : Nat)), some (.loc d), some (.loc fl), some (.loc g), some (.int (p : Nat)), z5, z6] ∧ (∀ (i : Nat) (o : Ob), h[i]? = some o → hx[i]? = some o) ∧ hx[d]? = some (.dct (k3.map kv)) ∧ hx[fl]? = some (.lst (F.map vN)) ∧ hx[g]? = some (.lst ((k3.drop ks.length).map vN)) ∧ hx[w]? = some (.lst [Va.str [105], Va.str [111]]) ∧ ks.length ≤ k3.length ∧ rem s p i k3 = some k2)
          ⟨k', _, _, rfl, kk3, dd1, ff1, ll1, W0, e0, ev⟩ (fun i en hx ⟨_, _, _, _, _, _, _, _, w, _⟩ => w) (by
          rintro i x en hx ex ⟨k3, z5, z6, rfl, kk3, dd3, ff3, ll3, W3, e3, r3⟩
          obtain ⟨c, hc, rfl, k4, st, hn⟩ : ∃ c, (c = 105 ∨ c = 111) ∧ x = .str [c] ∧ ∃ k4, st1 s c k3 p = some k4 ∧ rem s p (i + 1) k4 = some k2 := by
            match i, ex, r3 with
            | 0, ex, r3 =>
              cases ex
              obtain ⟨k4, a, b⟩ := Option.bind_eq_some_iff.mp r3
              exact ⟨105, .inl rfl, rfl, k4, a, b⟩
            | 1, ex, r3 =>
              cases ex
              exact ⟨111, .inr rfl, rfl, k2, r3, rfl⟩
            | i + 2, ex, _ => simp at ex
          have k4l : k4.length ≤ k2.length := by
            match i, hn with
            | 0, hn => exact Ro.st1_len hn
            | i + 1, hn =>
              have : some k4 = some k2 := by cases i <;> exact hn
              rw [Option.some.inj this]
              exact Nat.le_refl _
          have k3l := Ro.st1_len st
          unfold st1 at st
          split at st
          · rename_i pk
            have gp := dGet_kv k3 p
            rw [if_pos pk] at gp
            have gt := dGet_kv k3 (mv s c p)
            have inx := inX_dct (neg := true) (x := .int (mv s c p : Nat)) dd3 (k := .inl ((mv s c p : Nat) : Int)) rfl
            have n1 : ¬ ([111] : List Nat) = [105] := by decide
            have mI := fun h => moved_in (s := s) (p := p) (h := h)
            have mO := fun h => moved_out (s := s) (p := p) (h := h)
            split at st
            · rename_i tk
              cases st
              rw [gt, if_pos tk] at inx
              simp only [Option.isSome_some, ngB_t, Bool.not_true] at inx
              rcases hc with rfl | rfl
              · (apply Exists.intro; apply Exists.intro; apply And.intro; focus (simp (disch := first | omega | exact rfl) only [EV0, EV1, EV2, EV3, List.set_cons_zero, List.set_cons_succ, List.length_cons, List.length_nil, List.length_map, Nat.zero_add, List.cons_append, List.nil_append, and_self, and_true, true_and, and_false, false_and, if_true, if_false, decide_true, decide_false, decide_eq_true_eq, Bool.not_true, Bool.not_false, Bool.false_eq_true, Bool.true_eq_false, Bool.not_eq_true, eq_self, not_true_eq_false, not_false_eq_true, List.cons.injEq, Nat.reduceAdd, Nat.reduceLeDiff, Nat.reduceEqDiff, Nat.reduceSub, Nat.reduceMul, ↓reduceIte, reduceCtorEq, stp_ap, seq_ap, gNm_ap, mI, inx] <;> rfl))
                exact ⟨k3, _, _, rfl, kk3, dd3, ff3, ll3, W3, e3, hn⟩
              · (apply Exists.intro; apply Exists.intro; apply And.intro; focus (simp (disch := first | omega | exact rfl) only [EV0, EV1, EV2, EV3, List.set_cons_zero, List.set_cons_succ, List.length_cons, List.length_nil, List.length_map, Nat.zero_add, List.cons_append, List.nil_append, and_self, and_true, true_and, and_false, false_and, if_true, if_false, decide_true, decide_false, decide_eq_true_eq, Bool.not_true, Bool.not_false, Bool.false_eq_true, Bool.true_eq_false, Bool.not_eq_true, eq_self, not_true_eq_false, not_false_eq_true, List.cons.injEq, Nat.reduceAdd, Nat.reduceLeDiff, Nat.reduceEqDiff, Nat.reduceSub, Nat.reduceMul, ↓reduceIte, reduceCtorEq, stp_ap, seq_ap, gNm_ap, n1, mO, inx] <;> rfl))
                exact ⟨k3, _, _, rfl, kk3, dd3, ff3, ll3, W3, e3, hn⟩
            · rename_i tk
              split at st
              · rename_i q
                obtain ⟨q1, q2, q3, q4⟩ := q
                cases st
                rw [gt, if_neg tk] at inx
                simp only [Option.isSome_none, ngB_t, Bool.not_false] at inx
                have ig := ixD_ok (y := .int (p : Nat)) dd3 (k := .inl ((p : Nat) : Int)) rfl gp
                have fe : fig (mv s c p) = fig p ++ [c] := by rw [Ro.fig_pos (by omega), q1, q3]
                have fl20 : (fig p).length ≤ 20 := Ro.fig_len 20 p (by
                  have : p < 2 ^ 20 := by
                    have : (2 : Nat) ^ 20 = 1048576 := by decide
                    omega
                  exact this)
                have ad := fun h => as_ok (a := fig p) (b := [c]) (h := h) (by simp; omega)
                have sd := setD_ok (y := .int (mv s c p : Nat)) (x := .str (fig (mv s c p))) dd3 (k := .inl ((mv s c p : Nat) : Int)) rfl (by rw [List.length_map]; omega)
                rw [dPut_kv tk, fe] at sd
                have ll4 : (hx.set d (.dct ((k3 ++ [mv s c p]).map kv)))[g]? = some (.lst ((k3.drop ks.length).map vN)) := by
                  rw [List.getElem?_set_ne (by intro w; subst w; rw [dd3] at ll3; cases ll3)]
                  exact ll3
                have ap := app_ok (y := .int (mv s c p : Nat)) ll4 (by rw [List.length_map, List.length_drop]; omega)
                have tl := ty_lst ll4
                have e1 : ((k3.drop ks.length).map vN) ++ [.int (mv s c p : Nat)] = ((k3 ++ [mv s c p]).drop ks.length).map vN := by
                  rw [List.drop_append_of_le_length e3, List.map_append]; rfl
                rw [e1] at ap
                have gd : g ≠ d := by intro w; subst w; rw [dd3] at ll3; cases ll3
                have gl := (List.getElem?_eq_some_iff.mp ll3).1
                have fin : ∀ (z5 z6 : Option Va), ∃ (k5 : List Nat) (z5' z6' : Option Va), [some (Va.int (s : Nat)), some (.loc d), some (.loc fl), some (.loc g), some (.int (p : Nat)), z5, z6] = [some (.int (s : Nat)), some (.loc d), some (.loc fl), some (.loc g), some (.int (p : Nat)), z5', z6'] ∧ (∀ (i : Nat) (o : Ob), h[i]? = some o → ((hx.set d (.dct ((k3 ++ [mv s c p]).map kv))).set g (.lst (((k3 ++ [mv s c p]).drop ks.length).map vN)))[i]? = some o) ∧ ((hx.set d (.dct ((k3 ++ [mv s c p]).map kv))).set g (.lst (((k3 ++ [mv s c p]).drop ks.length).map vN)))[d]? = some (.dct (k5.map kv)) ∧ ((hx.set d (.dct ((k3 ++ [mv s c p]).map kv))).set g (.lst (((k3 ++ [mv s c p]).drop ks.length).map vN)))[fl]? = some (.lst (F.map vN)) ∧ ((hx.set d (.dct ((k3 ++ [mv s c p]).map kv))).set g (.lst (((k3 ++ [mv s c p]).drop ks.length).map vN)))[g]? = some (.lst ((k5.drop ks.length).map vN)) ∧ ((hx.set d (.dct ((k3 ++ [mv s c p]).map kv))).set g (.lst (((k3 ++ [mv s c p]).drop ks.length).map vN)))[w]? = some (.lst [Va.str [105], Va.str [111]]) ∧ ks.length ≤ k5.length ∧ rem s p (i + 1) k5 = some k2 := fun z5 z6 => by
                  have gf : g ≠ fl := by omega
                  have wd : w ≠ d := by omega
                  have wg : w ≠ g := by omega
                  refine ⟨k3 ++ [mv s c p], z5, z6, rfl, fun i o ho => ?_, ?_, ?_, ?_, ?_, by rw [List.length_append]; omega, hn⟩
                  · have il := (List.getElem?_eq_some_iff.mp ho).1
                    rw [List.getElem?_set_ne (by omega), List.getElem?_set_ne (by omega)]
                    exact kk3 i o ho
                  · rw [List.getElem?_set_ne gd, List.getElem?_set_self (List.getElem?_eq_some_iff.mp dd3).1]
                  · rw [List.getElem?_set_ne gf, List.getElem?_set_ne df]
                    exact ff3
                  · rw [List.getElem?_set_self (by rw [List.length_set]; exact gl)]
                  · rw [List.getElem?_set_ne (Ne.symm wg), List.getElem?_set_ne (Ne.symm wd)]
                    exact W3
                rcases hc with rfl | rfl
                · (apply Exists.intro; apply Exists.intro; apply And.intro; focus (simp (disch := first | omega | exact rfl) only [EV0, EV1, EV2, EV3, List.set_cons_zero, List.set_cons_succ, List.length_cons, List.length_nil, List.length_map, Nat.zero_add, List.cons_append, List.nil_append, and_self, and_true, true_and, and_false, false_and, if_true, if_false, decide_true, decide_false, decide_eq_true_eq, Bool.not_true, Bool.not_false, Bool.false_eq_true, Bool.true_eq_false, Bool.not_eq_true, eq_self, not_true_eq_false, not_false_eq_true, List.cons.injEq, Nat.reduceAdd, Nat.reduceLeDiff, Nat.reduceEqDiff, Nat.reduceSub, Nat.reduceMul, ↓reduceIte, reduceCtorEq, stp_ap, seq_ap, gNm_ap, mI, inx, ig, ad, gSbD_ap, fwdO_k, sd, tl, ap] <;> rfl))
                  exact fin _ _
                · (apply Exists.intro; apply Exists.intro; apply And.intro; focus (simp (disch := first | omega | exact rfl) only [EV0, EV1, EV2, EV3, List.set_cons_zero, List.set_cons_succ, List.length_cons, List.length_nil, List.length_map, Nat.zero_add, List.cons_append, List.nil_append, and_self, and_true, true_and, and_false, false_and, if_true, if_false, decide_true, decide_false, decide_eq_true_eq, Bool.not_true, Bool.not_false, Bool.false_eq_true, Bool.true_eq_false, Bool.not_eq_true, eq_self, not_true_eq_false, not_false_eq_true, List.cons.injEq, Nat.reduceAdd, Nat.reduceLeDiff, Nat.reduceEqDiff, Nat.reduceSub, Nat.reduceMul, ↓reduceIte, reduceCtorEq, stp_ap, seq_ap, gNm_ap, n1, mO, inx, ig, ad, gSbD_ap, fwdO_k, sd, tl, ap] <;> rfl))
                  exact fin _ _
              · cases st
          · cases st)
        have k32 : k3 = k2 := Option.some.inj r3
        subst k32
        exact ⟨_, _, rfl, k3, _, _, _, rfl, kk3, dd3, ff3, ll3, e3, le'⟩)
      rw [thn_nx]
      rw [List.length_map, List.drop_length] at le'
      have : k' = kE := Option.some.inj le'
      subst this
      exact ⟨_, _, by simp (disch := first | omega | exact rfl) only [EV0, EV1, EV2, EV3, List.set_cons_zero, List.set_cons_succ, List.length_cons, List.length_nil, List.length_map, Nat.zero_add, List.cons_append, List.nil_append, and_self, and_true, true_and, and_false, false_and, if_true, if_false, decide_true, decide_false, decide_eq_true_eq, Bool.not_true, Bool.not_false, Bool.false_eq_true, Bool.true_eq_false, Bool.not_eq_true, eq_self, not_true_eq_false, not_false_eq_true, List.cons.injEq, Nat.reduceAdd, Nat.reduceLeDiff, Nat.reduceEqDiff, Nat.reduceSub, Nat.reduceMul, ↓reduceIte, reduceCtorEq] <;> rfl, k', k'.drop ks.length, g, _, _, _, _, rfl, (by intro w; subst w; rw [dd'] at ll'; cases ll'), kk', dd', ll', eb⟩)
  rw [thn_nx]
  exact ⟨d, h', by simp (disch := first | omega | exact rfl) only [EV0, EV1, EV2, EV3, List.set_cons_zero, List.set_cons_succ, List.length_cons, List.length_nil, List.length_map, Nat.zero_add, List.cons_append, List.nil_append, and_self, and_true, true_and, and_false, false_and, if_true, if_false, decide_true, decide_false, decide_eq_true_eq, Bool.not_true, Bool.not_false, Bool.false_eq_true, Bool.true_eq_false, Bool.not_eq_true, eq_self, not_true_eq_false, not_false_eq_true, List.cons.injEq, Nat.reduceAdd, Nat.reduceLeDiff, Nat.reduceEqDiff, Nat.reduceSub, Nat.reduceMul, ↓reduceIte, reduceCtorEq] <;> rfl, kk, by omega, dd⟩
end Lawk57

set_option Elab.async false
set_option linter.all false
set_option maxRecDepth 100000
set_option maxHeartbeats 4000000
set_option autoImplicit false
namespace Lawk57
open PySem PySem.Spec L2 Fw Pg Dk
open PyProof.Rows hiding St
open Ro (fig bt mv st1 vis lev bfs ledW)
theorem q__law_right : G__law_right = R__law_right := by unfold G__law_right; rfl
theorem q__law_great_right : G__law_great_right = R__law_great_right := by unfold G__law_great_right; rfl
theorem fig_20 {p : Nat} (h : p < 2 ^ 20) : (fig p).length ≤ 20 := Ro.fig_len 20 p h
theorem lm {h0 : Hs} {m : Nat} : Mug h0 m → h0.length ≠ m := fun ⟨a, b, c, e⟩ => by
  have := (List.getElem?_eq_some_iff.mp e).1
  omega
theorem great_ok {h : Hs} {m : Nat} (q : Mug h m) : ∃ h', G__law_great_right [.loc m] h = .ok (.bl true) h' ∧ Kp m h h' := by
  rw [q__law_great_right]
  simp only [R__law_great_right, runB_ap, List.map_cons, List.map_nil, List.length_cons, List.length_nil, Nat.zero_add, Nat.reduceAdd, Nat.reduceSub, List.replicate_succ, List.replicate_zero, List.cons_append, List.nil_append]
  unfold b__law_great_right
  obtain ⟨r1, h1, e1, b1, k1⟩ := dice_ok q (top := 900) (by omega) (by omega)
  obtain ⟨r2, h2, e2, b2, k2⟩ := dice_ok k1.mug (top := 499999) (by omega) (by omega)
  have e1 : G__law_dice [.loc m, .int (900 : Nat)] h = .ok (.int (r1 : Nat)) h1 := e1
  have e2 : G__law_dice [.loc m, .int (499999 : Nat)] h1 = .ok (.int (r2 : Nat)) h2 := e2
  have k2 := k1.trans k2
  have pw1 : ∀ h, kPow (.int (2 : Nat)) (.int (10 : Nat)) h = .ok (.int (1024 : Nat)) h := fun h => rfl
  have pw2 : ∀ h, kPow (.int (2 : Nat)) (.int (19 : Nat)) h = .ok (.int (524288 : Nat)) h := fun h => rfl
  have pw3 : ∀ h, kPow (.int (10 : Nat)) (.int (6 : Nat)) h = .ok (.int (1000000 : Nat)) h := fun h => rfl
  have nw : newL [Va.int (52 : Nat), .int (1024 : Nat), .int (524288 : Nat), .int (1000000 : Nat), .int (2 + 2 * r1 : Nat), .int (2 + 2 * r2 : Nat)] h2 = .ok (.loc h2.length) (h2 ++ [.lst [Va.int (52 : Nat), .int (1024 : Nat), .int (524288 : Nat), .int (1000000 : Nat), .int (2 + 2 * r1 : Nat), .int (2 + 2 * r2 : Nat)]]) := new_ok (by simp)
  have k3 := k2.new (.lst [Va.int (52 : Nat), .int (1024 : Nat), .int (524288 : Nat), .int (1000000 : Nat), .int (2 + 2 * r1 : Nat), .int (2 + 2 * r2 : Nat)])
  obtain ⟨x, h3, e3, mx, k4⟩ := of_ok k3.mug (last_at _ _) (lm k2.mug) (by simp) (by simp)
  have hx : ∃ s : Nat, x = .int (s : Nat) ∧ 2 ≤ s ∧ s ≤ 1000000 ∧ s % 2 = 0 := by
    simp only [List.mem_cons, List.not_mem_nil, or_false] at mx
    rcases mx with rfl | rfl | rfl | rfl | rfl | rfl
    · exact ⟨52, rfl, by omega, by omega, by omega⟩
    · exact ⟨1024, rfl, by omega, by omega, by omega⟩
    · exact ⟨524288, rfl, by omega, by omega, by omega⟩
    · exact ⟨1000000, rfl, by omega, by omega, by omega⟩
    · exact ⟨2 + 2 * r1, rfl, by omega, by omega, by omega⟩
    · exact ⟨2 + 2 * r2, rfl, by omega, by omega, by omega⟩
  obtain ⟨s, rfl, s0, s1, s2⟩ := hx
  have k4 := k3.trans k4
  (rw [Fw.seq_ap]; conv => { pattern (Fw.thn _ _); arg 1; simp (disch := first | omega | exact rfl) only [EV0, EV1, EV2, EV3, List.set_cons_zero, List.set_cons_succ, List.length_cons, List.length_nil, List.length_map, Nat.zero_add, List.cons_append, List.nil_append, and_self, and_true, true_and, and_false, false_and, if_true, if_false, decide_true, decide_false, decide_eq_true_eq, Bool.not_true, Bool.not_false, Bool.false_eq_true, Bool.true_eq_false, Bool.not_eq_true, eq_self, not_true_eq_false, not_false_eq_true, List.cons.injEq, Nat.reduceAdd, Nat.reduceLeDiff, Nat.reduceEqDiff, Nat.reduceSub, Nat.reduceMul, ↓reduceIte, reduceCtorEq, pw1, pw2, pw3, e1, e2, nw, e3] }; rw [Fw.thn_nx])
  obtain ⟨r5, h5, e5, b5, k5⟩ := dice_ok k4.mug (top := s) (by omega) (by omega)
  obtain ⟨r6, h6, e6, b6, k6⟩ := dice_ok k5.mug (top := s) (by omega) (by omega)
  have k6 := (k4.trans k5).trans k6
  have o1 : 1 ≤ s := by omega
  have nw5 : newL [Va.int (r5 : Nat), .int (r6 : Nat), .int (s - 1 : Nat), .int (s / 2 : Nat), .int (0 : Nat)] h6 = .ok (.loc h6.length) (h6 ++ [.lst [Va.int (r5 : Nat), .int (r6 : Nat), .int (s - 1 : Nat), .int (s / 2 : Nat), .int (0 : Nat)]]) := new_ok (by simp)
  have k7 := k6.new (.lst [Va.int (r5 : Nat), .int (r6 : Nat), .int (s - 1 : Nat), .int (s / 2 : Nat), .int (0 : Nat)])
  obtain ⟨x, h7, e7, mx, k8⟩ := of_ok k7.mug (last_at _ _) (lm k6.mug) (by simp) (by simp)
  have hx : ∃ p : Nat, x = .int (p : Nat) ∧ p < s := by
    simp only [List.mem_cons, List.not_mem_nil, or_false] at mx
    rcases mx with rfl | rfl | rfl | rfl | rfl
    · exact ⟨r5, rfl, b5⟩
    · exact ⟨r6, rfl, b6⟩
    · exact ⟨s - 1, rfl, by omega⟩
    · exact ⟨s / 2, rfl, by omega⟩
    · exact ⟨0, rfl, by omega⟩
  obtain ⟨p, rfl, ps⟩ := hx
  have k8 := k7.trans k8
  (rw [Fw.seq_ap]; conv => { pattern (Fw.thn _ _); arg 1; simp (disch := first | omega | exact rfl) only [EV0, EV1, EV2, EV3, List.set_cons_zero, List.set_cons_succ, List.length_cons, List.length_nil, List.length_map, Nat.zero_add, List.cons_append, List.nil_append, and_self, and_true, true_and, and_false, false_and, if_true, if_false, decide_true, decide_false, decide_eq_true_eq, Bool.not_true, Bool.not_false, Bool.false_eq_true, Bool.true_eq_false, Bool.not_eq_true, eq_self, not_true_eq_false, not_false_eq_true, List.cons.injEq, Nat.reduceAdd, Nat.reduceLeDiff, Nat.reduceEqDiff, Nat.reduceSub, Nat.reduceMul, ↓reduceIte, reduceCtorEq, e5, e6, nw5, e7] }; rw [Fw.thn_nx])
  have p20 : p < 2 ^ 20 := by
    have : (2 : Nat) ^ 20 = 1048576 := by decide
    omega
  have ro := fun h => row_to_ok (h := h) s0 s1 s2 ps
  have fo := fun h => figures_ok (h := h) p20
  have lo := fun h => led_ok' (ws := fig p) (h := h) s0 s1 s2 (by have := fig_20 p20; omega) (Ro.fig_256 p p (Nat.le_refl _))
  rw [Ro.led_fig p p (Nat.le_refl _) ps] at lo
  (rw [Fw.seq_ap]; conv => { pattern (Fw.thn _ _); arg 1; simp (disch := first | omega | exact rfl) only [EV0, EV1, EV2, EV3, List.set_cons_zero, List.set_cons_succ, List.length_cons, List.length_nil, List.length_map, Nat.zero_add, List.cons_append, List.nil_append, and_self, and_true, true_and, and_false, false_and, if_true, if_false, decide_true, decide_false, decide_eq_true_eq, Bool.not_true, Bool.not_false, Bool.false_eq_true, Bool.true_eq_false, Bool.not_eq_true, eq_self, not_true_eq_false, not_false_eq_true, List.cons.injEq, Nat.reduceAdd, Nat.reduceLeDiff, Nat.reduceEqDiff, Nat.reduceSub, Nat.reduceMul, ↓reduceIte, reduceCtorEq, ro] }; rw [Fw.thn_nx])
  have es : ∀ (a : List Nat) h, kEq (.str a) (.str a) h = .ok (.bl true) h := fun a h => by rw [eqs_ok, decide_eq_true rfl]
  exact ⟨h7, by simp (disch := first | omega | exact rfl) only [EV0, EV1, EV2, EV3, List.set_cons_zero, List.set_cons_succ, List.length_cons, List.length_nil, List.length_map, Nat.zero_add, List.cons_append, List.nil_append, and_self, and_true, true_and, and_false, false_and, if_true, if_false, decide_true, decide_false, decide_eq_true_eq, Bool.not_true, Bool.not_false, Bool.false_eq_true, Bool.true_eq_false, Bool.not_eq_true, eq_self, not_true_eq_false, not_false_eq_true, List.cons.injEq, Nat.reduceAdd, Nat.reduceLeDiff, Nat.reduceEqDiff, Nat.reduceSub, Nat.reduceMul, ↓reduceIte, reduceCtorEq, fo, lo, es] <;> rfl, k8⟩
theorem rp_s {a : List Nat} {h : Hs} (l : a.length ≤ 40) (q : ∀ c ∈ a, c < 256) : kRpr [.str a] h = .ok (.str (PyData.shown (strD a)).cps.toList) h := rpr_ok rfl ((bd_str (m := 40) l q).rpr (by omega) (by omega))
theorem srtD_ok {d : Nat} {K : List Nat} {s : Nat} {h : Hs} (e : h[d]? = some (.dct (K.map kv))) (so : Dw.srtN K = List.range s) (l : s ≤ 1000000) (kl : K.length = s) : kSrtD [.loc d] h = .ok (.loc h.length) (h ++ [.lst ((List.range s).map vN)]) := by
  have m : mapO keyI (K.map kv) = some (K.map fun n : Nat => ((n : Nat) : Int)) := mapO_some (f := keyI) (g := kv) (k := fun n : Nat => ((n : Nat) : Int)) (fun _ => rfl) K
  simp only [kSrtD, e, m]
  rw [if_pos (by rw [List.length_map]; omega), srtN_int, so]
  have : ((List.range s).map fun n : Nat => ((n : Nat) : Int)).map Va.int = (List.range s).map vN := by rw [List.map_map]; rfl
  rw [this]
  exact new_ok (by rw [List.length_map, List.length_range]; omega)
theorem of_io {h : Hs} {m : Nat} (q : Mug h m) : ∃ (c : Nat) (h' : Hs), G__law_of [.loc m, .str [105, 111]] h = .ok (.str [c]) h' ∧ (c = 105 ∨ c = 111) ∧ Kp m h h' := by
  obtain ⟨j, h', e, jl, k⟩ := dice_ok q (top := 2) (by omega) (by omega)
  have e : G__law_dice [.loc m, .int (2 : Nat)] h = .ok (.int (j : Nat)) h' := e
  have ln : ∀ h, kLen [.str [105, 111]] h = .ok (.int (2 : Nat)) h := fun h => rfl
  rw [q__law_of]
  simp only [R__law_of, runB_ap, List.map_cons, List.map_nil, List.length_cons, List.length_nil, Nat.zero_add, Nat.reduceAdd, Nat.reduceSub, List.replicate_succ, List.replicate_zero, List.cons_append, List.nil_append]
  unfold b__law_of
  rcases (show j = 0 ∨ j = 1 by omega) with rfl | rfl
  · exact ⟨105, h', by simp (disch := first | omega | exact rfl) only [EV0, EV1, EV2, EV3, List.set_cons_zero, List.set_cons_succ, List.length_cons, List.length_nil, List.length_map, Nat.zero_add, List.cons_append, List.nil_append, and_self, and_true, true_and, and_false, false_and, if_true, if_false, decide_true, decide_false, decide_eq_true_eq, Bool.not_true, Bool.not_false, Bool.false_eq_true, Bool.true_eq_false, Bool.not_eq_true, eq_self, not_true_eq_false, not_false_eq_true, List.cons.injEq, Nat.reduceAdd, Nat.reduceLeDiff, Nat.reduceEqDiff, Nat.reduceSub, Nat.reduceMul, ↓reduceIte, reduceCtorEq, ln, e] <;> rfl, .inl rfl, k⟩
  · exact ⟨111, h', by simp (disch := first | omega | exact rfl) only [EV0, EV1, EV2, EV3, List.set_cons_zero, List.set_cons_succ, List.length_cons, List.length_nil, List.length_map, Nat.zero_add, List.cons_append, List.nil_append, and_self, and_true, true_and, and_false, false_and, if_true, if_false, decide_true, decide_false, decide_eq_true_eq, Bool.not_true, Bool.not_false, Bool.false_eq_true, Bool.true_eq_false, Bool.not_eq_true, eq_self, not_true_eq_false, not_false_eq_true, List.cons.injEq, Nat.reduceAdd, Nat.reduceLeDiff, Nat.reduceEqDiff, Nat.reduceSub, Nat.reduceMul, ↓reduceIte, reduceCtorEq, ln, e] <;> rfl, .inr rfl, k⟩
theorem right_ok {h : Hs} {m : Nat} (q : Mug h m) : ∃ h', G__law_right [.loc m] h = .ok (.bl true) h' ∧ Kp m h h' := by
  rw [q__law_right]
  simp only [R__law_right, runB_ap, List.map_cons, List.map_nil, List.length_cons, List.length_nil, Nat.zero_add, Nat.reduceAdd, Nat.reduceSub, List.replicate_succ, List.replicate_zero, List.cons_append, List.nil_append]
  unfold b__law_right
  (rw [Fw.seq_ap]; conv => { pattern (Fw.thn _ _); arg 1; simp (disch := first | omega | exact rfl) only [EV0, EV1, EV2, EV3, List.set_cons_zero, List.set_cons_succ, List.length_cons, List.length_nil, List.length_map, Nat.zero_add, List.cons_append, List.nil_append, and_self, and_true, true_and, and_false, false_and, if_true, if_false, decide_true, decide_false, decide_eq_true_eq, Bool.not_true, Bool.not_false, Bool.false_eq_true, Bool.true_eq_false, Bool.not_eq_true, eq_self, not_true_eq_false, not_false_eq_true, List.cons.injEq, Nat.reduceAdd, Nat.reduceLeDiff, Nat.reduceEqDiff, Nat.reduceSub, Nat.reduceMul, ↓reduceIte, reduceCtorEq, sRg1_k, rgk1_ok] })
  generalize hL : loop _ _ _ _ _ _ = L
  have es1 : ∀ (s : List Nat) h, kNe (.str s) (.str s) h = .ok (.bl false) h := fun f h => by rw [nes_ok, decide_eq_true rfl]; rfl
  obtain ⟨e', h', rfl, z1, z2, z3, z4, z5, z6, rfl, k⟩ := loop_rg hL (fun i en hx => ∃ (z1 z2 z3 z4 z5 z6 : Option Va), en = [some (.loc m), z1, z2, z3, z4, z5, z6, none] ∧ Kp m h hx)
    ⟨none, none, none, none, none, none, rfl, .refl q⟩ (by
    rintro t en hx ht ⟨z1, z2, z3, z4, z5, z6, rfl, k⟩
    have nw : newL [Va.int (5 : Nat), .int (20 : Nat), .int (32 : Nat)] hx = .ok (.loc hx.length) (hx ++ [.lst [Va.int (5 : Nat), .int (20 : Nat), .int (32 : Nat)]]) := new3
    have k1 := k.new (.lst [Va.int (5 : Nat), .int (20 : Nat), .int (32 : Nat)])
    obtain ⟨x, h1, e1, mx, k2⟩ := of_ok k1.mug (last_at _ _) (lm k.mug) (by simp) (by simp)
    have hxx : ∃ n : Nat, x = .int (n : Nat) ∧ 0 < n ∧ n ≤ 32 := by
      simp only [List.mem_cons, List.not_mem_nil, or_false] at mx
      rcases mx with rfl | rfl | rfl
      · exact ⟨5, rfl, by omega, by omega⟩
      · exact ⟨20, rfl, by omega, by omega⟩
      · exact ⟨32, rfl, by omega, by omega⟩
    obtain ⟨n, rfl, n0, n1⟩ := hxx
    have k2 := k1.trans k2
    obtain ⟨r, h2, e2, b2, k3⟩ := dice_ok k2.mug (top := n) n0 (by omega)
    have k3 := k2.trans k3
    have tab := Ro.bfs_all r (by omega)
    have s0 : 2 ≤ 2 + 2 * r := by omega
    have s1 : 2 + 2 * r ≤ 64 := by omega
    have s2 : (2 + 2 * r) % 2 = 0 := by omega
    rw [stp_go (gNm_ap _ _ _ _)]
    simp only [List.set_cons_succ, List.set_cons_zero]
    (rw [Fw.seq_ap]; conv => { pattern (Fw.thn _ _); arg 1; simp (disch := first | omega | exact rfl) only [EV0, EV1, EV2, EV3, List.set_cons_zero, List.set_cons_succ, List.length_cons, List.length_nil, List.length_map, Nat.zero_add, List.cons_append, List.nil_append, and_self, and_true, true_and, and_false, false_and, if_true, if_false, decide_true, decide_false, decide_eq_true_eq, Bool.not_true, Bool.not_false, Bool.false_eq_true, Bool.true_eq_false, Bool.not_eq_true, eq_self, not_true_eq_false, not_false_eq_true, List.cons.injEq, Nat.reduceAdd, Nat.reduceLeDiff, Nat.reduceEqDiff, Nat.reduceSub, Nat.reduceMul, ↓reduceIte, reduceCtorEq, nw, e1, e2] }; rw [Fw.thn_nx])
    generalize 2 + 2 * r = s at *
    obtain ⟨K, eK, pK⟩ := Option.map_eq_some_iff.mp tab
    have srK : Dw.srtN K = List.range s := congrArg Prod.fst pK
    have lK : K.length = s := congrArg Prod.snd pK
    have memK : ∀ p, p < s → p ∈ K := fun p hp => (srtN_mem p K).mp (by rw [srK]; exact List.mem_range.mpr hp)
    obtain ⟨d, h3, e3, kp3, dl, d3⟩ := rows_ok (h := h2) s1 eK lK (by omega)
    have k4 : Kp m h2 h3 := ⟨let ⟨a, b, c, e⟩ := k3.mug; ⟨a, b, c, kp3 _ _ e⟩, fun i o _ e => kp3 i o e⟩
    have dm : d ≠ m := by
      obtain ⟨a, b, c, e⟩ := k3.mug
      have := (List.getElem?_eq_some_iff.mp e).1
      omega
    have k4 := k3.trans k4
    (rw [Fw.seq_ap]; conv => { pattern (Fw.thn _ _); arg 1; simp (disch := first | omega | exact rfl) only [EV0, EV1, EV2, EV3, List.set_cons_zero, List.set_cons_succ, List.length_cons, List.length_nil, List.length_map, Nat.zero_add, List.cons_append, List.nil_append, and_self, and_true, true_and, and_false, false_and, if_true, if_false, decide_true, decide_false, decide_eq_true_eq, Bool.not_true, Bool.not_false, Bool.false_eq_true, Bool.true_eq_false, Bool.not_eq_true, eq_self, not_true_eq_false, not_false_eq_true, List.cons.injEq, Nat.reduceAdd, Nat.reduceLeDiff, Nat.reduceEqDiff, Nat.reduceSub, Nat.reduceMul, ↓reduceIte, reduceCtorEq, e3] }; rw [Fw.thn_nx])
    have sd := srtD_ok d3 srK (by omega) lK
    have lR := lstR1_ok (j := s) (h := h3 ++ [Ob.lst ((List.range s).map vN)]) (by omega)
    have neL : kNe (.loc h3.length) (.loc (h3 ++ [Ob.lst ((List.range s).map vN)]).length) (h3 ++ [Ob.lst ((List.range s).map vN)] ++ [Ob.lst ((List.range s).map vN)]) = .ok (.bl false) (h3 ++ [Ob.lst ((List.range s).map vN)] ++ [Ob.lst ((List.range s).map vN)]) := by
      have := ne_lN (xs := List.range s) (ys := List.range s) (app_at (r := [Ob.lst ((List.range s).map vN)]) (last_at h3 (Ob.lst ((List.range s).map vN)))) (last_at (h3 ++ [Ob.lst ((List.range s).map vN)]) (Ob.lst ((List.range s).map vN)))
      rw [decide_eq_true rfl] at this
      exact this
    (rw [Fw.seq_ap]; conv => { pattern (Fw.thn _ _); arg 1; simp (disch := first | omega | exact rfl) only [EV0, EV1, EV2, EV3, List.set_cons_zero, List.set_cons_succ, List.length_cons, List.length_nil, List.length_map, Nat.zero_add, List.cons_append, List.nil_append, and_self, and_true, true_and, and_false, false_and, if_true, if_false, decide_true, decide_false, decide_eq_true_eq, Bool.not_true, Bool.not_false, Bool.false_eq_true, Bool.true_eq_false, Bool.not_eq_true, eq_self, not_true_eq_false, not_false_eq_true, List.cons.injEq, Nat.reduceAdd, Nat.reduceLeDiff, Nat.reduceEqDiff, Nat.reduceSub, Nat.reduceMul, ↓reduceIte, reduceCtorEq, sd, sLstRg1_k, lR, neL] }; rw [Fw.thn_nx])
    have k5 := (k4.new (.lst ((List.range s).map vN))).new (.lst ((List.range s).map vN))
    have d5 := app_at (r := [Ob.lst ((List.range s).map vN)]) (app_at (r := [Ob.lst ((List.range s).map vN)]) d3)
    generalize h3 ++ [Ob.lst ((List.range s).map vN)] ++ [Ob.lst ((List.range s).map vN)] = h5 at *
    have lR5 := lstR1_ok (j := s) (h := h5) (by omega)
    (rw [Fw.seq_ap]; conv => { pattern (Fw.thn _ _); arg 1; simp (disch := first | omega | exact rfl) only [EV0, EV1, EV2, EV3, List.set_cons_zero, List.set_cons_succ, List.length_cons, List.length_nil, List.length_map, Nat.zero_add, List.cons_append, List.nil_append, and_self, and_true, true_and, and_false, false_and, if_true, if_false, decide_true, decide_false, decide_eq_true_eq, Bool.not_true, Bool.not_false, Bool.false_eq_true, Bool.true_eq_false, Bool.not_eq_true, eq_self, not_true_eq_false, not_false_eq_true, List.cons.injEq, Nat.reduceAdd, Nat.reduceLeDiff, Nat.reduceEqDiff, Nat.reduceSub, Nat.reduceMul, ↓reduceIte, reduceCtorEq, sLstRg1_k, lR5] }; rw [Fw.thn_nx])
    have k6 := k5.new (.lst ((List.range s).map vN))
    have d6 := app_at (r := [Ob.lst ((List.range s).map vN)]) d5
    have p6 := last_at h5 (Ob.lst ((List.range s).map vN))
    have pm6 := lm k5.mug
    -- some places
    obtain ⟨P, ps, h7, z7, e7, pP, psl, psb, d7, k7⟩ : ∃ (P : Nat) (ps : List Nat) (h7 : Hs) (z7 : Option Va), (sIf (sBl (Fw.s2 kGt (sVar 2) (sK (.int (12 : Nat))))) (sSet 4 (Fw.s2 kAdd (sLst (sCons (sK (.int (0 : Nat))) (sCons (Fw.s2 kSub (sVar 2) (sK (.int (1 : Nat)))) sNil))) (sLc (sRg1 (sCons (sK (.int (4 : Nat))) sNil)) (gNm 7) tru (sCall G__law_dice 2 [0, 1] (sCons (sVar 0) (sCons (sVar 2) sNil))) [7]))) skip) [some (.loc m), some (.int (t : Nat)), some (.int (s : Nat)), some (.loc d), some (.loc h5.length), z5, z6, none] (h5 ++ [Ob.lst ((List.range s).map vN)]) = .nx [some (.loc m), some (.int (t : Nat)), some (.int (s : Nat)), some (.loc d), some (.loc P), z5, z6, none] h7 ∧ h7[P]? = some (.lst (ps.map vN)) ∧ ps.length ≤ 100 ∧ (∀ p ∈ ps, p < s) ∧ h7[d]? = some (.dct (K.map kv)) ∧ Kp m h h7 := by
      by_cases c : 12 < s
      · have o1 : 1 ≤ s := by omega
        have nw2 : newL [Va.int (0 : Nat), .int (s - 1 : Nat)] (h5 ++ [Ob.lst ((List.range s).map vN)]) = .ok (.loc (h5 ++ [Ob.lst ((List.range s).map vN)]).length) (h5 ++ [Ob.lst ((List.range s).map vN)] ++ [.lst [Va.int (0 : Nat), .int (s - 1 : Nat)]]) := new2
        have k7 := k6.new (.lst [Va.int (0 : Nat), .int (s - 1 : Nat)])
        have d7 := app_at (r := [Ob.lst [Va.int (0 : Nat), .int (s - 1 : Nat)]]) d6
        have A7 := last_at (h5 ++ [Ob.lst ((List.range s).map vN)]) (Ob.lst [Va.int (0 : Nat), .int (s - 1 : Nat)])
        have Am := lm k6.mug
        generalize (h5 ++ [Ob.lst ((List.range s).map vN)]).length = A at *
        generalize h5 ++ [Ob.lst ((List.range s).map vN)] ++ [Ob.lst [Va.int (0 : Nat), .int (s - 1 : Nat)]] = h6 at *
        have lc : ∃ (ys : List Nat) (h8 : Hs), lcl (srcR 0 4) (gNm 7) tru (sCall G__law_dice 2 [0, 1] (sCons (sVar 0) (sCons (sVar 2) sNil))) 4 0 [some (.loc m), some (.int (t : Nat)), some (.int (s : Nat)), some (.loc d), some (.loc h5.length), z5, z6, none] h6 = .ok (ys.map vN) h8 ∧ ys.length ≤ 4 ∧ (∀ p ∈ ys, p < s) ∧ Kp m h6 h8 := by
          have go : ∀ k i h6, i + k = 4 → Mug h6 m → ∃ (ys : List Nat) (h8 : Hs), lcl (srcR 0 4) (gNm 7) tru (sCall G__law_dice 2 [0, 1] (sCons (sVar 0) (sCons (sVar 2) sNil))) k i [some (.loc m), some (.int (t : Nat)), some (.int (s : Nat)), some (.loc d), some (.loc h5.length), z5, z6, none] h6 = .ok (ys.map vN) h8 ∧ ys.length ≤ k ∧ (∀ p ∈ ys, p < s) ∧ Kp m h6 h8 := by
            intro k
            induction k with
            | zero =>
              intro i h6 q mu
              have : i = 4 := by omega
              subst this
              exact ⟨[], h6, by simp [lcl], by simp, by simp, .refl mu⟩
            | succ k ih =>
              intro i h6 q mu
              obtain ⟨r, h7, e, b, kk⟩ := dice_ok mu (top := s) (by omega) (by omega)
              obtain ⟨ys, h8, f1, f2, f3, f4⟩ := ih (i + 1) h7 (by omega) kk.mug
              refine ⟨r :: ys, h8, ?_, by simp; omega, fun p hp => ?_, kk.trans f4⟩
              · have sr : srcR 0 4 i h6 = some (some (.int (i : Nat))) := by simp [show i < 4 by omega]
                have el : sCall G__law_dice 2 [0, 1] (sCons (sVar 0) (sCons (sVar 2) sNil)) [some (.loc m), some (.int (t : Nat)), some (.int (s : Nat)), some (.loc d), some (.loc h5.length), z5, z6, some (.int (i : Nat))] h6 = .ok (.int (r : Nat)) h7 := by simp (disch := first | omega | exact rfl) only [EV0, EV1, EV2, EV3, List.set_cons_zero, List.set_cons_succ, List.length_cons, List.length_nil, List.length_map, Nat.zero_add, List.cons_append, List.nil_append, and_self, and_true, true_and, and_false, false_and, if_true, if_false, decide_true, decide_false, decide_eq_true_eq, Bool.not_true, Bool.not_false, Bool.false_eq_true, Bool.true_eq_false, Bool.not_eq_true, eq_self, not_true_eq_false, not_false_eq_true, List.cons.injEq, Nat.reduceAdd, Nat.reduceLeDiff, Nat.reduceEqDiff, Nat.reduceSub, Nat.reduceMul, ↓reduceIte, reduceCtorEq, e]
                simp only [lcl, sr, gNm_ap, List.set_cons_succ, List.set_cons_zero, tru, el, f1]
                rfl
              · rcases List.mem_cons.mp hp with rfl | hp
                · exact b
                · exact f3 p hp
          exact go 4 0 h6 rfl k7.mug
        obtain ⟨ys, h8, f1, f2, f3, f4⟩ := lc
        have nw8 := new_ok (xs := ys.map vN) (h := h8) (by rw [List.length_map]; omega)
        have A8 := app_at (r := [Ob.lst (ys.map vN)]) (f4.at Am A7)
        have d8 := app_at (r := [Ob.lst (ys.map vN)]) (f4.at dm d7)
        have k8 := (k7.trans f4).new (.lst (ys.map vN))
        have ad := adL_ok A8 (last_at h8 (Ob.lst (ys.map vN))) (by simp; omega)
        refine ⟨_, 0 :: (s - 1) :: ys, _, none, by simp (disch := first | omega | exact rfl) only [EV0, EV1, EV2, EV3, List.set_cons_zero, List.set_cons_succ, List.length_cons, List.length_nil, List.length_map, Nat.zero_add, List.cons_append, List.nil_append, and_self, and_true, true_and, and_false, false_and, if_true, if_false, decide_true, decide_false, decide_eq_true_eq, Bool.not_true, Bool.not_false, Bool.false_eq_true, Bool.true_eq_false, Bool.not_eq_true, eq_self, not_true_eq_false, not_false_eq_true, List.cons.injEq, Nat.reduceAdd, Nat.reduceLeDiff, Nat.reduceEqDiff, Nat.reduceSub, Nat.reduceMul, ↓reduceIte, reduceCtorEq, c, nw2, sRg1_k, rgk1_ok, wipeE_nil, wipeE_cons, f1, lst_ok, nw8, ad] <;> rfl, last_at _ _, by simp; omega, fun p hp => ?_, app_at d8, k8.new _⟩
        rcases List.mem_cons.mp hp with rfl | hp
        · omega
        · rcases List.mem_cons.mp hp with rfl | hp
          · omega
          · exact f3 p hp
      · exact ⟨h5.length, List.range s, _, none, by simp (disch := first | omega | exact rfl) only [EV0, EV1, EV2, EV3, List.set_cons_zero, List.set_cons_succ, List.length_cons, List.length_nil, List.length_map, Nat.zero_add, List.cons_append, List.nil_append, and_self, and_true, true_and, and_false, false_and, if_true, if_false, decide_true, decide_false, decide_eq_true_eq, Bool.not_true, Bool.not_false, Bool.false_eq_true, Bool.true_eq_false, Bool.not_eq_true, eq_self, not_true_eq_false, not_false_eq_true, List.cons.injEq, Nat.reduceAdd, Nat.reduceLeDiff, Nat.reduceEqDiff, Nat.reduceSub, Nat.reduceMul, ↓reduceIte, reduceCtorEq, c] <;> rfl, p6, by rw [List.length_range]; omega, fun p hp => List.mem_range.mp hp, d6, k6⟩
    rw [seq_ap, e7, thn_nx]
    clear e7
    have it7 := itV_loc pP
    rw [List.length_map] at it7
    (rw [Fw.seq_ap]; conv => { pattern (Fw.thn _ _); arg 1; simp (disch := first | omega | exact rfl) only [EV0, EV1, EV2, EV3, List.set_cons_zero, List.set_cons_succ, List.length_cons, List.length_nil, List.length_map, Nat.zero_add, List.cons_append, List.nil_append, and_self, and_true, true_and, and_false, false_and, if_true, if_false, decide_true, decide_false, decide_eq_true_eq, Bool.not_true, Bool.not_false, Bool.false_eq_true, Bool.true_eq_false, Bool.not_eq_true, eq_self, not_true_eq_false, not_false_eq_true, List.cons.injEq, Nat.reduceAdd, Nat.reduceLeDiff, Nat.reduceEqDiff, Nat.reduceSub, Nat.reduceMul, ↓reduceIte, reduceCtorEq, it7] })
    generalize hL2 : loop _ _ _ _ _ _ = L2
    have ro := fun p (hp : p < s) h => row_to_ok (h := h) s0 (by omega) s2 hp
    have p20 : ∀ p, p < s → p < 2 ^ 20 := fun p hp => by
      have : (2 : Nat) ^ 20 = 1048576 := by decide
      omega
    have ixK : ∀ {h : Hs} (p : Nat), p < s → h[d]? = some (.dct (K.map kv)) → kIxD (.loc d) (.int (p : Nat)) h = .ok (.str (fig p)) h := fun {h} p hp e => by
      refine ixD_ok (k := .inl ((p : Nat) : Int)) e rfl ?_
      rw [dGet_kv, if_pos (memK p hp)]
    have f256 : ∀ p, ∀ c ∈ fig p, c < 256 := fun p c hc => by
      rcases Ro.fig_256 p p (Nat.le_refl _) c hc with rfl | rfl <;> decide
    obtain ⟨e', h8, rfl, z5, rfl, rfl⟩ := loop_ls (xs := ps.map vN) hL2 (by rw [List.length_map]) (fun i en hx => ∃ (z5 : Option Va), en = [some (.loc m), some (.int (t : Nat)), some (.int (s : Nat)), some (.loc d), some (.loc P), z5, z6, none] ∧ hx = h7)
      ⟨_, rfl, rfl⟩ (by rintro i en hx ⟨_, _, rfl⟩; exact pP) (by
      rintro i x en hx ex ⟨z5, rfl, rfl⟩
      rw [List.getElem?_map] at ex
      obtain ⟨p, ep, rfl⟩ := Option.map_eq_some_iff.mp ex
      have hp := psb p (List.mem_of_getElem? ep)
      have ro := ro p hp
      have ix := ixK p hp d7
      have rp := fun h => rp_s (a := fig p) (h := h) (by have := fig_20 (p20 p hp); omega) (f256 p)
      have vp : vN p = .int (p : Nat) := rfl
      (apply Exists.intro; apply Exists.intro; apply And.intro; focus (simp (disch := first | omega | exact rfl) only [EV0, EV1, EV2, EV3, List.set_cons_zero, List.set_cons_succ, List.length_cons, List.length_nil, List.length_map, Nat.zero_add, List.cons_append, List.nil_append, and_self, and_true, true_and, and_false, false_and, if_true, if_false, decide_true, decide_false, decide_eq_true_eq, Bool.not_true, Bool.not_false, Bool.false_eq_true, Bool.true_eq_false, Bool.not_eq_true, eq_self, not_true_eq_false, not_false_eq_true, List.cons.injEq, Nat.reduceAdd, Nat.reduceLeDiff, Nat.reduceEqDiff, Nat.reduceSub, Nat.reduceMul, ↓reduceIte, reduceCtorEq, stp_ap, gNm_ap, vp, ro, rp, ix, es1] <;> rfl))
      exact ⟨_, rfl, rfl⟩)
    rw [thn_nx]
    obtain ⟨p, h9, e9, hp, k9⟩ := dice_ok k7.mug (top := s) (by omega) (by omega)
    have d9 := k9.at dm d7
    have k9 := k7.trans k9
    (rw [Fw.seq_ap]; conv => { pattern (Fw.thn _ _); arg 1; simp (disch := first | omega | exact rfl) only [EV0, EV1, EV2, EV3, List.set_cons_zero, List.set_cons_succ, List.length_cons, List.length_nil, List.length_map, Nat.zero_add, List.cons_append, List.nil_append, and_self, and_true, true_and, and_false, false_and, if_true, if_false, decide_true, decide_false, decide_eq_true_eq, Bool.not_true, Bool.not_false, Bool.false_eq_true, Bool.true_eq_false, Bool.not_eq_true, eq_self, not_true_eq_false, not_false_eq_true, List.cons.injEq, Nat.reduceAdd, Nat.reduceLeDiff, Nat.reduceEqDiff, Nat.reduceSub, Nat.reduceMul, ↓reduceIte, reduceCtorEq, e9] }; rw [Fw.thn_nx])
    have rop := ro p hp
    have ix := fun (r : Hs) => ixK p hp (app_at (r := r) d9)
    have ix0 := ixK p hp d9
    have lo := fun h => led_ok' (ws := fig p) (h := h) s0 (by omega) s2 (by have := fig_20 (p20 p hp); omega) (Ro.fig_256 p p (Nat.le_refl _))
    rw [Ro.led_fig p p (Nat.le_refl _) hp] at lo
    have fo := fun h => figures_ok (h := h) (p20 p hp)
    have nn : ∀ (a : Nat) h, kNe (.int (a : Nat)) (.int (a : Nat)) h = .ok (.bl false) h := fun a h => by rw [nen_ok, decide_eq_true rfl]; rfl
    (rw [Fw.seq_ap]; conv => { pattern (Fw.thn _ _); arg 1; simp (disch := first | omega | exact rfl) only [EV0, EV1, EV2, EV3, List.set_cons_zero, List.set_cons_succ, List.length_cons, List.length_nil, List.length_map, Nat.zero_add, List.cons_append, List.nil_append, and_self, and_true, true_and, and_false, false_and, if_true, if_false, decide_true, decide_false, decide_eq_true_eq, Bool.not_true, Bool.not_false, Bool.false_eq_true, Bool.true_eq_false, Bool.not_eq_true, eq_self, not_true_eq_false, not_false_eq_true, List.cons.injEq, Nat.reduceAdd, Nat.reduceLeDiff, Nat.reduceEqDiff, Nat.reduceSub, Nat.reduceMul, ↓reduceIte, reduceCtorEq, rop, ix0, es1, lo, nn] }; rw [Fw.thn_nx])
    (rw [Fw.seq_ap]; conv => { pattern (Fw.thn _ _); arg 1; simp (disch := first | omega | exact rfl) only [EV0, EV1, EV2, EV3, List.set_cons_zero, List.set_cons_succ, List.length_cons, List.length_nil, List.length_map, Nat.zero_add, List.cons_append, List.nil_append, and_self, and_true, true_and, and_false, false_and, if_true, if_false, decide_true, decide_false, decide_eq_true_eq, Bool.not_true, Bool.not_false, Bool.false_eq_true, Bool.true_eq_false, Bool.not_eq_true, eq_self, not_true_eq_false, not_false_eq_true, List.cons.injEq, Nat.reduceAdd, Nat.reduceLeDiff, Nat.reduceEqDiff, Nat.reduceSub, Nat.reduceMul, ↓reduceIte, reduceCtorEq, ix0, fo, es1] }; rw [Fw.thn_nx])
    obtain ⟨w, h10, e10, hw, k10⟩ := dice_ok k9.mug (top := 13) (by omega) (by omega)
    have e10 : G__law_dice [.loc m, .int (13 : Nat)] h9 = .ok (.int (w : Nat)) h10 := e10
    have k10 := k9.trans k10
    have lc : ∃ (ws : List Nat) (h11 : Hs), lcl (srcR 0 w) (gNm 7) tru (sCall G__law_of 2 [0, 1] (sCons (sVar 0) (sCons (sK (.str [105, 111])) sNil))) w 0 [some (.loc m), some (.int (t : Nat)), some (.int (s : Nat)), some (.loc d), some (.loc P), some (.int (p : Nat)), z6, none] h10 = .ok (ws.map fun c => Va.str [c]) h11 ∧ ws.length ≤ w ∧ (∀ c ∈ ws, c = 105 ∨ c = 111) ∧ Kp m h10 h11 := by
      have go : ∀ k i h6, i + k = w → Mug h6 m → ∃ (ws : List Nat) (h8 : Hs), lcl (srcR 0 w) (gNm 7) tru (sCall G__law_of 2 [0, 1] (sCons (sVar 0) (sCons (sK (.str [105, 111])) sNil))) k i [some (.loc m), some (.int (t : Nat)), some (.int (s : Nat)), some (.loc d), some (.loc P), some (.int (p : Nat)), z6, none] h6 = .ok (ws.map fun c => Va.str [c]) h8 ∧ ws.length ≤ k ∧ (∀ c ∈ ws, c = 105 ∨ c = 111) ∧ Kp m h6 h8 := by
        intro k
        induction k with
        | zero =>
          intro i h6 q mu
          have : i = w := by omega
          subst this
          exact ⟨[], h6, by simp [lcl], by simp, by simp, .refl mu⟩
        | succ k ih =>
          intro i h6 q mu
          obtain ⟨c, h7, e, b, kk⟩ := of_io mu
          obtain ⟨ys, h8, f1, f2, f3, f4⟩ := ih (i + 1) h7 (by omega) kk.mug
          refine ⟨c :: ys, h8, ?_, by simp; omega, fun p hp => ?_, kk.trans f4⟩
          · have sr : srcR 0 w i h6 = some (some (.int (i : Nat))) := by simp [show i < w by omega]
            have el : sCall G__law_of 2 [0, 1] (sCons (sVar 0) (sCons (sK (.str [105, 111])) sNil)) [some (.loc m), some (.int (t : Nat)), some (.int (s : Nat)), some (.loc d), some (.loc P), some (.int (p : Nat)), z6, some (.int (i : Nat))] h6 = .ok (.str [c]) h7 := by simp (disch := first | omega | exact rfl) only [EV0, EV1, EV2, EV3, List.set_cons_zero, List.set_cons_succ, List.length_cons, List.length_nil, List.length_map, Nat.zero_add, List.cons_append, List.nil_append, and_self, and_true, true_and, and_false, false_and, if_true, if_false, decide_true, decide_false, decide_eq_true_eq, Bool.not_true, Bool.not_false, Bool.false_eq_true, Bool.true_eq_false, Bool.not_eq_true, eq_self, not_true_eq_false, not_false_eq_true, List.cons.injEq, Nat.reduceAdd, Nat.reduceLeDiff, Nat.reduceEqDiff, Nat.reduceSub, Nat.reduceMul, ↓reduceIte, reduceCtorEq, e]
            simp only [lcl, sr, gNm_ap, List.set_cons_succ, List.set_cons_zero, tru, el, f1]
            rfl
          · rcases List.mem_cons.mp hp with rfl | hp
            · exact b
            · exact f3 p hp
      exact go w 0 h10 (by omega) k10.mug
    obtain ⟨ws, h11, f1, f2, f3, f4⟩ := lc
    have nw11 := new_ok (xs := ws.map fun c => Va.str [c]) (h := h11) (by rw [List.length_map]; omega)
    have jo := join_one (h := h11 ++ [Ob.lst (ws.map fun c => Va.str [c])]) (last_at h11 _) (by omega)
    have k11 := (k10.trans f4).new (.lst (ws.map fun c => Va.str [c]))
    (rw [Fw.seq_ap]; conv => { pattern (Fw.thn _ _); arg 1; simp (disch := first | omega | exact rfl) only [EV0, EV1, EV2, EV3, List.set_cons_zero, List.set_cons_succ, List.length_cons, List.length_nil, List.length_map, Nat.zero_add, List.cons_append, List.nil_append, and_self, and_true, true_and, and_false, false_and, if_true, if_false, decide_true, decide_false, decide_eq_true_eq, Bool.not_true, Bool.not_false, Bool.false_eq_true, Bool.true_eq_false, Bool.not_eq_true, eq_self, not_true_eq_false, not_false_eq_true, List.cons.injEq, Nat.reduceAdd, Nat.reduceLeDiff, Nat.reduceEqDiff, Nat.reduceSub, Nat.reduceMul, ↓reduceIte, reduceCtorEq, ty_str, e10, sRg1_k, rgk1_ok, wipeE_nil, wipeE_cons, f1, lst_ok, nw11, jo] }; rw [Fw.thn_nx])
    have lw := fun h => led_ok' (ws := ws) (h := h) s0 (by omega) s2 (by omega) f3
    have ll := Ro.ledW_lt s2 (by omega) ws
    have rw' := ro _ ll
    have fl := Ro.fig_len ws.length _ (Ro.ledW_pow s ws)
    have lnA : ∀ h, kLen [.str (fig (ledW s ws))] h = .ok (.int ((fig (ledW s ws)).length : Nat)) h := fun h => ln_str (by omega)
    have lnB : ∀ h, kLen [.str ws] h = .ok (.int (ws.length : Nat)) h := fun h => ln_str (by omega)
    have ng : ¬ ws.length < (fig (ledW s ws)).length := by omega
    refine ⟨_, _, by simp (disch := first | omega | exact rfl) only [EV0, EV1, EV2, EV3, List.set_cons_zero, List.set_cons_succ, List.length_cons, List.length_nil, List.length_map, Nat.zero_add, List.cons_append, List.nil_append, and_self, and_true, true_and, and_false, false_and, if_true, if_false, decide_true, decide_false, decide_eq_true_eq, Bool.not_true, Bool.not_false, Bool.false_eq_true, Bool.true_eq_false, Bool.not_eq_true, eq_self, not_true_eq_false, not_false_eq_true, List.cons.injEq, Nat.reduceAdd, Nat.reduceLeDiff, Nat.reduceEqDiff, Nat.reduceSub, Nat.reduceMul, ↓reduceIte, reduceCtorEq, lw, rw', lnA, lnB, ng] <;> rfl, _, _, _, _, _, _, rfl, k11⟩)
  rw [thn_nx]
  obtain ⟨h9, e9, k9⟩ := great_ok k.mug
  exact ⟨h9, by simp (disch := first | omega | exact rfl) only [EV0, EV1, EV2, EV3, List.set_cons_zero, List.set_cons_succ, List.length_cons, List.length_nil, List.length_map, Nat.zero_add, List.cons_append, List.nil_append, and_self, and_true, true_and, and_false, false_and, if_true, if_false, decide_true, decide_false, decide_eq_true_eq, Bool.not_true, Bool.not_false, Bool.false_eq_true, Bool.true_eq_false, Bool.not_eq_true, eq_self, not_true_eq_false, not_false_eq_true, List.cons.injEq, Nat.reduceAdd, Nat.reduceLeDiff, Nat.reduceEqDiff, Nat.reduceSub, Nat.reduceMul, ↓reduceIte, reduceCtorEq, e9] <;> rfl, k.trans k9⟩
end Lawk57

set_option Elab.async false
set_option linter.all false
set_option maxRecDepth 100000
set_option maxHeartbeats 4000000
set_option autoImplicit false
namespace Lawk57
open PySem PySem.Spec L2 Fw Pg Dk
open PyProof.Rows hiding St
theorem law_true (ns : List Int) (l : ns.length ≤ 63) : ∃ h', R_law [.ros (ns.map Va.int)] [] = .ok (.bl true) h' := by
  show ∃ h', fin (b_law [some (.ros (ns.map Va.int)), none] []) = _
  unfold b_law
  generalize hN : max 2 (min ns.length 5) = N
  have c : ∃ h', lcl (srcR 0 N) (gNm 1) tru (sCall G__law_right 1 [0] (sCons (sCall G__law_box 2 [0, 1] (sCons (sVar 0) (sCons (sVar 1) sNil))) sNil)) N 0 [some (.ros (ns.map Va.int)), none] [] = .ok (List.replicate N (.bl true)) h' ∧ True := by
    refine lcl_inv _ (by simp) (fun i h' => True) ?_ ?_ trivial
    · rintro i hx hi _
      obtain ⟨a, b, c, e⟩ := box_ok (k := i) (h := hx) l
      obtain ⟨hy, f, _⟩ := right_ok (h := hx ++ [.lst [.int a, .int b, .int c]]) (m := hx.length) ⟨a, b, c, last_at _ _⟩
      refine ⟨.int (i : Nat), _, _, _, hy, .bl true, by simp [hi], rfl, rfl, ?_, by simp [hi], trivial⟩
      simp (disch := first | omega | exact rfl) only [EV0, EV1, EV2, EV3, List.set_cons_zero, List.set_cons_succ, List.length_cons, List.length_nil, List.length_map, Nat.zero_add, List.cons_append, List.nil_append, and_self, and_true, true_and, and_false, false_and, if_true, if_false, decide_true, decide_false, decide_eq_true_eq, Bool.not_true, Bool.not_false, Bool.false_eq_true, Bool.true_eq_false, Bool.not_eq_true, eq_self, not_true_eq_false, not_false_eq_true, List.cons.injEq, Nat.reduceAdd, Nat.reduceLeDiff, Nat.reduceEqDiff, Nat.reduceSub, Nat.reduceMul, ↓reduceIte, reduceCtorEq, e, f]
    · rintro hx _
      simp
  obtain ⟨h', c, _⟩ := c
  have n6 := new_ok (xs := List.replicate N (Va.bl true)) (h := h') (by simp; omega)
  have a6 := all_true (h := h' ++ [.lst (List.replicate N (.bl true))]) (last_at h' _) (fun y m => (List.mem_replicate.mp m).2)
  exact ⟨_, by simp (disch := first | omega | exact rfl) only [EV0, EV1, EV2, EV3, List.set_cons_zero, List.set_cons_succ, List.length_cons, List.length_nil, List.length_map, Nat.zero_add, List.cons_append, List.nil_append, and_self, and_true, true_and, and_false, false_and, if_true, if_false, decide_true, decide_false, decide_eq_true_eq, Bool.not_true, Bool.not_false, Bool.false_eq_true, Bool.true_eq_false, Bool.not_eq_true, eq_self, not_true_eq_false, not_false_eq_true, List.cons.injEq, Nat.reduceAdd, Nat.reduceLeDiff, Nat.reduceEqDiff, Nat.reduceSub, Nat.reduceMul, ↓reduceIte, reduceCtorEq, sRg1_k, hN, rgk1_ok, c, lst_ok, n6, a6] <;> rfl⟩
end Lawk57

set_option Elab.async false
set_option linter.all false
set_option maxRecDepth 100000
set_option maxHeartbeats 2000000
set_option autoImplicit false
namespace Lawk57
open PySem PySem.Spec L2 Fw Pg Dk
open PyProof.Rows hiding St
def top (i : Nat) : Stmt := PySem.Challenge.pw_foldworld_k57_whole_rows_to_places.main.body.getD i (.Pass ⟨0, 0, 0, 0⟩)
abbrev st_is_within : Stmt := top 7
abbrev N_is_within : List Str := ["value", "least", "most"]
theorem sc_is_within : FnScope N_is_within ["value", "least", "most"] (defScope st_is_within) := ⟨rfl, rfl, rfl, by decide +kernel, rfl, by decide +kernel, by decide +kernel⟩
abbrev st_is_shuffle : Stmt := top 9
abbrev N_is_shuffle : List Str := ["value"]
theorem sc_is_shuffle : FnScope N_is_shuffle ["value"] (defScope st_is_shuffle) := ⟨rfl, rfl, rfl, by decide +kernel, rfl, by decide +kernel, by decide +kernel⟩
abbrev st__modulus : Stmt := top 17
abbrev N__modulus : List Str := ["shuffle", "size"]
theorem sc__modulus : FnScope N__modulus ["shuffle", "size"] (defScope st__modulus) := ⟨rfl, rfl, rfl, by decide +kernel, rfl, by decide +kernel, by decide +kernel⟩
abbrev st__power_of_two : Stmt := top 18
abbrev N__power_of_two : List Str := ["exponent", "modulus", "found", "square", "left"]
theorem sc__power_of_two : FnScope N__power_of_two ["exponent", "modulus"] (defScope st__power_of_two) := ⟨rfl, rfl, rfl, by decide +kernel, rfl, by decide +kernel, by decide +kernel⟩
abbrev st__law_box : Stmt := top 21
abbrev N__law_box : List Str := ["script", "k", "own", "seed", "cell", "great"]
theorem sc__law_box : FnScope N__law_box ["script", "k"] (defScope st__law_box) := ⟨rfl, rfl, rfl, by decide +kernel, rfl, by decide +kernel, by decide +kernel⟩
abbrev st__law_dice : Stmt := top 22
abbrev N__law_dice : List Str := ["box", "sides", "face", "old", "by"]
theorem sc__law_dice : FnScope N__law_dice ["box", "sides"] (defScope st__law_dice) := ⟨rfl, rfl, rfl, by decide +kernel, rfl, by decide +kernel, by decide +kernel⟩
abbrev st__law_moved : Stmt := top 24
abbrev N__law_moved : List Str := ["shuffle", "size", "place", "is_near"]
theorem sc__law_moved : FnScope N__law_moved ["shuffle", "size", "place"] (defScope st__law_moved) := ⟨rfl, rfl, rfl, by decide +kernel, rfl, by decide +kernel, by decide +kernel⟩
abbrev st__law_figures : Stmt := top 27
abbrev N__law_figures : List Str := ["number", "found"]
theorem sc__law_figures : FnScope N__law_figures ["number"] (defScope st__law_figures) := ⟨rfl, rfl, rfl, by decide +kernel, rfl, by decide +kernel, by decide +kernel⟩
abbrev st_need_number : Stmt := top 8
abbrev N_need_number : List Str := ["value", "least", "most"]
theorem sc_need_number : FnScope N_need_number ["value", "least", "most"] (defScope st_need_number) := ⟨rfl, rfl, rfl, by decide +kernel, rfl, by decide +kernel, by decide +kernel⟩
abbrev st_need_shuffle : Stmt := top 10
abbrev N_need_shuffle : List Str := ["value"]
theorem sc_need_shuffle : FnScope N_need_shuffle ["value"] (defScope st_need_shuffle) := ⟨rfl, rfl, rfl, by decide +kernel, rfl, by decide +kernel, by decide +kernel⟩
abbrev st_is_size : Stmt := top 11
abbrev N_is_size : List Str := ["value"]
theorem sc_is_size : FnScope N_is_size ["value"] (defScope st_is_size) := ⟨rfl, rfl, rfl, by decide +kernel, rfl, by decide +kernel, by decide +kernel⟩
abbrev st__led : Stmt := top 19
abbrev N__led : List Str := ["shuffle", "size", "place", "power", "modulus", "twice"]
theorem sc__led : FnScope N__led ["shuffle", "size", "place", "power"] (defScope st__led) := ⟨rfl, rfl, rfl, by decide +kernel, rfl, by decide +kernel, by decide +kernel⟩
abbrev st__law_of : Stmt := top 23
abbrev N__law_of : List Str := ["box", "things"]
theorem sc__law_of : FnScope N__law_of ["box", "things"] (defScope st__law_of) := ⟨rfl, rfl, rfl, by decide +kernel, rfl, by decide +kernel, by decide +kernel⟩
abbrev st__law_rows : Stmt := top 25
abbrev N__law_rows : List Str := ["size", "found", "front", "later", "here", "word", "there"]
theorem sc__law_rows : FnScope N__law_rows ["size"] (defScope st__law_rows) := ⟨rfl, rfl, rfl, by decide +kernel, rfl, by decide +kernel, by decide +kernel⟩
abbrev st_need_size : Stmt := top 12
abbrev N_need_size : List Str := ["value"]
theorem sc_need_size : FnScope N_need_size ["value"] (defScope st_need_size) := ⟨rfl, rfl, rfl, by decide +kernel, rfl, by decide +kernel, by decide +kernel⟩
abbrev st_place_after : Stmt := top 15
abbrev N_place_after : List Str := ["shuffle", "size", "number", "times"]
theorem sc_place_after : FnScope N_place_after ["shuffle", "size", "number", "times"] (defScope st_place_after) := ⟨rfl, rfl, rfl, by decide +kernel, rfl, by decide +kernel, by decide +kernel⟩
abbrev st_row_to : Stmt := top 16
abbrev N_row_to : List Str := ["size", "number", "signs", "left"]
theorem sc_row_to : FnScope N_row_to ["size", "number"] (defScope st_row_to) := ⟨rfl, rfl, rfl, by decide +kernel, rfl, by decide +kernel, by decide +kernel⟩
abbrev st__law_led : Stmt := top 26
abbrev N__law_led : List Str := ["size", "words", "here", "word"]
theorem sc__law_led : FnScope N__law_led ["size", "words"] (defScope st__law_led) := ⟨rfl, rfl, rfl, by decide +kernel, rfl, by decide +kernel, by decide +kernel⟩
abbrev st__law_great_right : Stmt := top 28
abbrev N__law_great_right : List Str := ["box", "size", "place", "told"]
theorem sc__law_great_right : FnScope N__law_great_right ["box"] (defScope st__law_great_right) := ⟨rfl, rfl, rfl, by decide +kernel, rfl, by decide +kernel, by decide +kernel⟩
abbrev st__law_right : Stmt := top 29
abbrev N__law_right : List Str := ["box", "turn", "size", "due", "some", "place", "words", "k"]
theorem sc__law_right : FnScope N__law_right ["box"] (defScope st__law_right) := ⟨rfl, rfl, rfl, by decide +kernel, rfl, by decide +kernel, by decide +kernel⟩
abbrev st_law : Stmt := top 30
abbrev N_law : List Str := ["script", "k"]
theorem sc_law : FnScope N_law ["script"] (defScope st_law) := ⟨rfl, rfl, rfl, by decide +kernel, rfl, by decide +kernel, by decide +kernel⟩
theorem kb__law_box_2 : KwB "_law_box" st__law_box ["script", "k"] [] 2 0 [0, 1] := ⟨rfl, by decide, fun us ws h1 h2 _ _ _ _ _ _ => match us, h1, ws, h2 with | [_, _], _, [], _ => rfl⟩
theorem kb__law_dice_2 : KwB "_law_dice" st__law_dice ["box", "sides"] [] 2 0 [0, 1] := ⟨rfl, by decide, fun us ws h1 h2 _ _ _ _ _ _ => match us, h1, ws, h2 with | [_, _], _, [], _ => rfl⟩
theorem kb__law_figures_1 : KwB "_law_figures" st__law_figures ["number"] [] 1 0 [0] := ⟨rfl, by decide, fun us ws h1 h2 _ _ _ _ _ _ => match us, h1, ws, h2 with | [_], _, [], _ => rfl⟩
theorem kb__law_great_right_1 : KwB "_law_great_right" st__law_great_right ["box"] [] 1 0 [0] := ⟨rfl, by decide, fun us ws h1 h2 _ _ _ _ _ _ => match us, h1, ws, h2 with | [_], _, [], _ => rfl⟩
theorem kb__law_led_2 : KwB "_law_led" st__law_led ["size", "words"] [] 2 0 [0, 1] := ⟨rfl, by decide, fun us ws h1 h2 _ _ _ _ _ _ => match us, h1, ws, h2 with | [_, _], _, [], _ => rfl⟩
theorem kb__law_moved_3 : KwB "_law_moved" st__law_moved ["shuffle", "size", "place"] [] 3 0 [0, 1, 2] := ⟨rfl, by decide, fun us ws h1 h2 _ _ _ _ _ _ => match us, h1, ws, h2 with | [_, _, _], _, [], _ => rfl⟩
theorem kb__law_of_2 : KwB "_law_of" st__law_of ["box", "things"] [] 2 0 [0, 1] := ⟨rfl, by decide, fun us ws h1 h2 _ _ _ _ _ _ => match us, h1, ws, h2 with | [_, _], _, [], _ => rfl⟩
theorem kb__law_right_1 : KwB "_law_right" st__law_right ["box"] [] 1 0 [0] := ⟨rfl, by decide, fun us ws h1 h2 _ _ _ _ _ _ => match us, h1, ws, h2 with | [_], _, [], _ => rfl⟩
theorem kb__law_rows_1 : KwB "_law_rows" st__law_rows ["size"] [] 1 0 [0] := ⟨rfl, by decide, fun us ws h1 h2 _ _ _ _ _ _ => match us, h1, ws, h2 with | [_], _, [], _ => rfl⟩
theorem kb__led_4 : KwB "_led" st__led ["shuffle", "size", "place", "power"] [] 4 0 [0, 1, 2, 3] := ⟨rfl, by decide, fun us ws h1 h2 _ _ _ _ _ _ => match us, h1, ws, h2 with | [_, _, _, _], _, [], _ => rfl⟩
theorem kb__modulus_2 : KwB "_modulus" st__modulus ["shuffle", "size"] [] 2 0 [0, 1] := ⟨rfl, by decide, fun us ws h1 h2 _ _ _ _ _ _ => match us, h1, ws, h2 with | [_, _], _, [], _ => rfl⟩
theorem kb__power_of_two_2 : KwB "_power_of_two" st__power_of_two ["exponent", "modulus"] [] 2 0 [0, 1] := ⟨rfl, by decide, fun us ws h1 h2 _ _ _ _ _ _ => match us, h1, ws, h2 with | [_, _], _, [], _ => rfl⟩
theorem kb_is_shuffle_1 : KwB "is_shuffle" st_is_shuffle ["value"] [] 1 0 [0] := ⟨rfl, by decide, fun us ws h1 h2 _ _ _ _ _ _ => match us, h1, ws, h2 with | [_], _, [], _ => rfl⟩
theorem kb_is_size_1 : KwB "is_size" st_is_size ["value"] [] 1 0 [0] := ⟨rfl, by decide, fun us ws h1 h2 _ _ _ _ _ _ => match us, h1, ws, h2 with | [_], _, [], _ => rfl⟩
theorem kb_is_within_3 : KwB "is_within" st_is_within ["value", "least", "most"] [] 3 0 [0, 1, 2] := ⟨rfl, by decide, fun us ws h1 h2 _ _ _ _ _ _ => match us, h1, ws, h2 with | [_, _, _], _, [], _ => rfl⟩
theorem kb_need_number_3 : KwB "need_number" st_need_number ["value", "least", "most"] [] 3 0 [0, 1, 2] := ⟨rfl, by decide, fun us ws h1 h2 _ _ _ _ _ _ => match us, h1, ws, h2 with | [_, _, _], _, [], _ => rfl⟩
theorem kb_need_shuffle_1 : KwB "need_shuffle" st_need_shuffle ["value"] [] 1 0 [0] := ⟨rfl, by decide, fun us ws h1 h2 _ _ _ _ _ _ => match us, h1, ws, h2 with | [_], _, [], _ => rfl⟩
theorem kb_need_size_1 : KwB "need_size" st_need_size ["value"] [] 1 0 [0] := ⟨rfl, by decide, fun us ws h1 h2 _ _ _ _ _ _ => match us, h1, ws, h2 with | [_], _, [], _ => rfl⟩
theorem kb_place_after_4 : KwB "place_after" st_place_after ["shuffle", "size", "number", "times"] [] 4 0 [0, 1, 2, 3] := ⟨rfl, by decide, fun us ws h1 h2 _ _ _ _ _ _ => match us, h1, ws, h2 with | [_, _, _, _], _, [], _ => rfl⟩
theorem kb_row_to_0_number_size : KwB "row_to" st_row_to ["size", "number"] ["number", "size"] 0 2 [1, 0] := ⟨rfl, by decide, fun us ws h1 h2 _ _ _ _ _ _ => match us, h1, ws, h2 with | [], _, [_, _], _ => rfl⟩
theorem kb_row_to_2 : KwB "row_to" st_row_to ["size", "number"] [] 2 0 [0, 1] := ⟨rfl, by decide, fun us ws h1 h2 _ _ _ _ _ _ => match us, h1, ws, h2 with | [_, _], _, [], _ => rfl⟩
structure Glob (K : PySem.W.Frag) (mg : Str → Option Value) : Prop where
  n_abs : mg "abs" = none
  n_all : mg "all" = none
  n_divmod : mg "divmod" = none
  n_int : mg "int" = none
  n_len : mg "len" = none
  n_list : mg "list" = none
  n_max : mg "max" = none
  n_min : mg "min" = none
  n_range : mg "range" = none
  n_repr : mg "repr" = none
  n_sorted : mg "sorted" = none
  n_str : mg "str" = none
  n_type : mg "type" = none
  c_MOST_DECK : ∃ t, mg "MOST_DECK" = some (.int 1000000 t)
  c__MOST_TIMES : ∃ t, mg "_MOST_TIMES" = some (.int 1000000000000000000000000000000 t)
  t__SHUFFLES : ∃ a, mg "_SHUFFLES" = some (.ref a) ∧ ∀ H, SqT K H a [V.str ⟨#[111, 117, 116]⟩, V.str ⟨#[105, 110]⟩, V.str ⟨#[102, 111, 108, 100]⟩]
section
variable {P : Program} {w : World} {K : PySem.W.Frag} {mg : Str → Option Value} {base : Heap}
set_option maxHeartbeats 8000000 in
theorem d_is_within (T : Glob K mg)  {f : Addr} {kV doc pm cdv ct oc : Value} {an od : Option Addr} {osl : Array (Option Value)}
    (lk : K.lookup f = some ⟨oc, od, .func (PySem.W.fnOf "is_within" "is_within" (defArgs st_is_within) (defBody st_is_within) (defScope st_is_within) .none kV doc pm an cdv ct), osl⟩) (hcd : PySem.W.codeIn K cdv "is_within" = true) :
    DefOk P w ⟨K, mg⟩ base 1 f (PySem.W.fnOf "is_within" "is_within" (defArgs st_is_within) (defBody st_is_within) (defScope st_is_within) .none kV doc pm an cdv ct) ["value", "least", "most"] R_is_within := by
  refine defOk_of (N := N_is_within) lk hcd sc_is_within fun A outer s H E hr hg => ?_
  have hu := hr.units
  have hu5 := units5 hr
  have nd : (N_is_within).Nodup := sc_is_within.nd
  have tk := @takes_of (bodyX P w K mg base N_is_within "is_within" (defScope st_is_within) f cdv A outer s H E) E rfl rfl rfl _ rfl
  have hpass : PassesOwn _ _ _ _ := @passes_of (bodyX P w K mg base N_is_within "is_within" (defScope st_is_within) f cdv A outer s H E) _ _ rfl
  exact (ss_one (sp_ret (se_and (se_com ks_is (se_bty cs_typ (by rfl) T.n_type (sa_cons (se_var 0) sa_nil)) (se_ty (by rfl) T.n_int)) (se_one (se_chn ks_le ks_le (se_var 1) (se_var 0) (se_var 2))))))
set_option maxHeartbeats 8000000 in
theorem d_is_shuffle (T : Glob K mg)  {f : Addr} {kV doc pm cdv ct oc : Value} {an od : Option Addr} {osl : Array (Option Value)}
    (lk : K.lookup f = some ⟨oc, od, .func (PySem.W.fnOf "is_shuffle" "is_shuffle" (defArgs st_is_shuffle) (defBody st_is_shuffle) (defScope st_is_shuffle) .none kV doc pm an cdv ct), osl⟩) (hcd : PySem.W.codeIn K cdv "is_shuffle" = true) :
    DefOk P w ⟨K, mg⟩ base 1 f (PySem.W.fnOf "is_shuffle" "is_shuffle" (defArgs st_is_shuffle) (defBody st_is_shuffle) (defScope st_is_shuffle) .none kV doc pm an cdv ct) ["value"] R_is_shuffle := by
  refine defOk_of (N := N_is_shuffle) lk hcd sc_is_shuffle fun A outer s H E hr hg => ?_
  have hu := hr.units
  have hu5 := units5 hr
  have nd : (N_is_shuffle).Nodup := sc_is_shuffle.nd
  have tk := @takes_of (bodyX P w K mg base N_is_shuffle "is_shuffle" (defScope st_is_shuffle) f cdv A outer s H E) E rfl rfl rfl _ rfl
  have hpass : PassesOwn _ _ _ _ := @passes_of (bodyX P w K mg base N_is_shuffle "is_shuffle" (defScope st_is_shuffle) f cdv A outer s H E) _ _ rfl
  exact (ss_one (sp_ret (se_and (se_com ks_is (se_bty cs_typ (by rfl) T.n_type (sa_cons (se_var 0) sa_nil)) (se_ty (by rfl) T.n_str)) (se_one (se_com (ks_in hu hu5) (se_var 0) (se_gtupE (by rfl) T.t__SHUFFLES (fun _ _ _ => rp_strs [[111, 117, 116], [105, 110], [102, 111, 108, 100]])))))))
set_option maxHeartbeats 8000000 in
theorem d__modulus (T : Glob K mg)  {f : Addr} {kV doc pm cdv ct oc : Value} {an od : Option Addr} {osl : Array (Option Value)}
    (lk : K.lookup f = some ⟨oc, od, .func (PySem.W.fnOf "_modulus" "_modulus" (defArgs st__modulus) (defBody st__modulus) (defScope st__modulus) .none kV doc pm an cdv ct), osl⟩) (hcd : PySem.W.codeIn K cdv "_modulus" = true) :
    DefOk P w ⟨K, mg⟩ base 1 f (PySem.W.fnOf "_modulus" "_modulus" (defArgs st__modulus) (defBody st__modulus) (defScope st__modulus) .none kV doc pm an cdv ct) ["shuffle", "size"] R__modulus := by
  refine defOk_of (N := N__modulus) lk hcd sc__modulus fun A outer s H E hr hg => ?_
  have hu := hr.units
  have hu5 := units5 hr
  have nd : (N__modulus).Nodup := sc__modulus.nd
  have tk := @takes_of (bodyX P w K mg base N__modulus "_modulus" (defScope st__modulus) f cdv A outer s H E) E rfl rfl rfl _ rfl
  have hpass : PassesOwn _ _ _ _ := @passes_of (bodyX P w K mg base N__modulus "_modulus" (defScope st__modulus) f cdv A outer s H E) _ _ rfl
  exact (ss_cons (sp_if (st_com (ks_eq hu) (se_var 0) (se_str [111, 117, 116]))
  (ss_one (sp_ret (se_bin ks_sub (se_var 1) se_int)))
  ss_nil)
  (ss_one (sp_ret (se_ite (st_com (ks_eq hu) (se_var 0) (se_str [105, 110])) (se_bin ks_add (se_var 1) se_int) (se_bin ks_sub (se_bin ks_mul se_int (se_var 1)) se_int)))))
set_option maxHeartbeats 8000000 in
theorem d__power_of_two (T : Glob K mg)  {f : Addr} {kV doc pm cdv ct oc : Value} {an od : Option Addr} {osl : Array (Option Value)}
    (lk : K.lookup f = some ⟨oc, od, .func (PySem.W.fnOf "_power_of_two" "_power_of_two" (defArgs st__power_of_two) (defBody st__power_of_two) (defScope st__power_of_two) .none kV doc pm an cdv ct), osl⟩) (hcd : PySem.W.codeIn K cdv "_power_of_two" = true) :
    DefOk P w ⟨K, mg⟩ base 1 f (PySem.W.fnOf "_power_of_two" "_power_of_two" (defArgs st__power_of_two) (defBody st__power_of_two) (defScope st__power_of_two) .none kV doc pm an cdv ct) ["exponent", "modulus"] R__power_of_two := by
  refine defOk_of (N := N__power_of_two) lk hcd sc__power_of_two fun A outer s H E hr hg => ?_
  have hu := hr.units
  have hu5 := units5 hr
  have nd : (N__power_of_two).Nodup := sc__power_of_two.nd
  have tk := @takes_of (bodyX P w K mg base N__power_of_two "_power_of_two" (defScope st__power_of_two) f cdv A outer s H E) E rfl rfl rfl _ rfl
  have hpass : PassesOwn _ _ _ _ := @passes_of (bodyX P w K mg base N__power_of_two "_power_of_two" (defScope st__power_of_two) f cdv A outer s H E) _ _ rfl
  exact (ss_cons (sp_set 2 nd (se_bin ks_mod se_int (se_var 1)))
  (ss_cons (sp_set 3 nd (se_bin ks_mod se_int (se_var 1)))
  (ss_cons (sp_set 4 nd (se_var 0))
  (ss_cons (sp_while 1000 hpass (st_com ks_gt (se_var 4) se_int)
  (ss_cons (sp_if (st_com (ks_eq hu) (se_bin ks_mod (se_var 4) se_int) se_int)
  (ss_one (sp_set 2 nd (se_bin ks_mod (se_bin ks_mul (se_var 2) (se_var 3)) (se_var 1))))
  ss_nil)
  (ss_cons (sp_set 3 nd (se_bin ks_mod (se_bin ks_mul (se_var 3) (se_var 3)) (se_var 1)))
  (ss_one (sp_set 4 nd (se_bin ks_fdv (se_var 4) se_int))))))
  (ss_one (sp_ret (se_var 2)))))))
set_option maxHeartbeats 8000000 in
theorem d__law_box (T : Glob K mg)  {f : Addr} {kV doc pm cdv ct oc : Value} {an od : Option Addr} {osl : Array (Option Value)}
    (lk : K.lookup f = some ⟨oc, od, .func (PySem.W.fnOf "_law_box" "_law_box" (defArgs st__law_box) (defBody st__law_box) (defScope st__law_box) .none kV doc pm an cdv ct), osl⟩) (hcd : PySem.W.codeIn K cdv "_law_box" = true) :
    DefOk P w ⟨K, mg⟩ base 1 f (PySem.W.fnOf "_law_box" "_law_box" (defArgs st__law_box) (defBody st__law_box) (defScope st__law_box) .none kV doc pm an cdv ct) ["script", "k"] R__law_box := by
  refine defOk_of (N := N__law_box) lk hcd sc__law_box fun A outer s H E hr hg => ?_
  have hu := hr.units
  have hu5 := units5 hr
  have nd : (N__law_box).Nodup := sc__law_box.nd
  have tk := @takes_of (bodyX P w K mg base N__law_box "_law_box" (defScope st__law_box) f cdv A outer s H E) E rfl rfl rfl _ rfl
  have hpass : PassesOwn _ _ _ _ := @passes_of (bodyX P w K mg base N__law_box "_law_box" (defScope st__law_box) f cdv A outer s H E) _ _ rfl
  exact (ss_cons (sp_set 2 nd (se_ite (st_com ks_lt (se_var 1) (se_blt cs_len (by rfl) T.n_len (sa_cons (se_var 0) sa_nil))) (se_bty cs_int (by rfl) T.n_int (sa_cons (se_ix (se_var 0) (se_var 1)) sa_nil)) (se_bin ks_add (se_bin ks_mul se_int (se_var 1)) se_int)))
  (ss_cons (sp_set 3 nd (se_bin ks_add se_int (se_bin ks_mul se_int (se_var 1))))
  (ss_cons (sp_for hpass rfl (si_any (se_sl (se_var 0) so_none (so_some se_int))) (sg_name 4 nd)
  (ss_one (sp_set 3 nd (se_bin ks_mod (se_bty cs_int (by rfl) T.n_int (sa_cons (se_bin ks_add (se_bin ks_add (se_bin ks_mul (se_var 3) se_int) (se_bin ks_mod (se_bty cs_int (by rfl) T.n_int (sa_cons (se_var 4) sa_nil)) se_int)) (se_var 1)) sa_nil)) se_int))))
  (ss_cons (sp_set 5 nd (se_ite (PW.pt (sw_or (st_com ks_lt (se_var 2) se_int) (sw_or1 (st_com ks_ge (se_var 2) (se_bin ks_pow se_int se_int))))) (se_blt cs_abs (by rfl) T.n_abs (sa_cons (se_var 2) sa_nil)) se_int))
  (ss_one (sp_ret (se_lst (sa_cons (se_var 5) (sa_cons (se_bin ks_mod (se_bty cs_int (by rfl) T.n_int (sa_cons (se_bin ks_add (se_bin ks_mul (se_var 3) se_int) (se_bin ks_mod (se_bty cs_int (by rfl) T.n_int (sa_cons (se_var 2) sa_nil)) se_int)) sa_nil)) se_int) (sa_cons se_int sa_nil))))))))))
set_option maxHeartbeats 8000000 in
theorem d__law_dice (T : Glob K mg)  {f : Addr} {kV doc pm cdv ct oc : Value} {an od : Option Addr} {osl : Array (Option Value)}
    (lk : K.lookup f = some ⟨oc, od, .func (PySem.W.fnOf "_law_dice" "_law_dice" (defArgs st__law_dice) (defBody st__law_dice) (defScope st__law_dice) .none kV doc pm an cdv ct), osl⟩) (hcd : PySem.W.codeIn K cdv "_law_dice" = true) :
    DefOk P w ⟨K, mg⟩ base 1 f (PySem.W.fnOf "_law_dice" "_law_dice" (defArgs st__law_dice) (defBody st__law_dice) (defScope st__law_dice) .none kV doc pm an cdv ct) ["box", "sides"] R__law_dice := by
  refine defOk_of (N := N__law_dice) lk hcd sc__law_dice fun A outer s H E hr hg => ?_
  have hu := hr.units
  have hu5 := units5 hr
  have nd : (N__law_dice).Nodup := sc__law_dice.nd
  have tk := @takes_of (bodyX P w K mg base N__law_dice "_law_dice" (defScope st__law_dice) f cdv A outer s H E) E rfl rfl rfl _ rfl
  have hpass : PassesOwn _ _ _ _ := @passes_of (bodyX P w K mg base N__law_dice "_law_dice" (defScope st__law_dice) f cdv A outer s H E) _ _ rfl
  exact (ss_cons (sp_asg (se_bin ks_add (se_ix (se_var 0) se_int) se_int) (sg_sub (se_var 0) se_int))
  (ss_cons (sp_if (st_com ks_gt (se_ix (se_var 0) se_int) se_int)
  (ss_cons (sp_asg (se_blt cs_dvm (by rfl) T.n_divmod (sa_cons (se_ix (se_var 0) se_int) (sa_cons (se_var 1) sa_nil))) (sg_tup rfl (sgs_cons (sg_sub (se_var 0) se_int) (sgs_cons (sg_name 2 nd) sgs_nil))))
  (ss_one (sp_ret (se_var 2))))
  ss_nil)
  (ss_cons (sp_set 3 nd (se_bty cs_int (by rfl) T.n_int (sa_cons (se_ix (se_var 0) se_int) sa_nil)))
  (ss_cons (sp_set 4 nd (se_bin ks_add (se_bin ks_mod (se_bty cs_int (by rfl) T.n_int (sa_cons (se_var 3) sa_nil)) se_int) se_int))
  (ss_cons (sp_asg (se_bin ks_mod (se_bty cs_int (by rfl) T.n_int (sa_cons (se_bin ks_add (se_bin ks_add (se_bin ks_mul (se_var 3) (se_var 4)) (se_bin ks_mul se_int (se_ix (se_var 0) se_int))) se_int) sa_nil)) se_int) (sg_sub (se_var 0) se_int))
  (ss_one (sp_ret (se_bin ks_mod (se_bty cs_int (by rfl) T.n_int (sa_cons (se_bin ks_fdv (se_ix (se_var 0) se_int) se_int) sa_nil)) (se_var 1)))))))))
set_option maxHeartbeats 8000000 in
theorem d__law_moved (T : Glob K mg)  {f : Addr} {kV doc pm cdv ct oc : Value} {an od : Option Addr} {osl : Array (Option Value)}
    (lk : K.lookup f = some ⟨oc, od, .func (PySem.W.fnOf "_law_moved" "_law_moved" (defArgs st__law_moved) (defBody st__law_moved) (defScope st__law_moved) .none kV doc pm an cdv ct), osl⟩) (hcd : PySem.W.codeIn K cdv "_law_moved" = true) :
    DefOk P w ⟨K, mg⟩ base 1 f (PySem.W.fnOf "_law_moved" "_law_moved" (defArgs st__law_moved) (defBody st__law_moved) (defScope st__law_moved) .none kV doc pm an cdv ct) ["shuffle", "size", "place"] R__law_moved := by
  refine defOk_of (N := N__law_moved) lk hcd sc__law_moved fun A outer s H E hr hg => ?_
  have hu := hr.units
  have hu5 := units5 hr
  have nd : (N__law_moved).Nodup := sc__law_moved.nd
  have tk := @takes_of (bodyX P w K mg base N__law_moved "_law_moved" (defScope st__law_moved) f cdv A outer s H E) E rfl rfl rfl _ rfl
  have hpass : PassesOwn _ _ _ _ := @passes_of (bodyX P w K mg base N__law_moved "_law_moved" (defScope st__law_moved) f cdv A outer s H E) _ _ rfl
  exact (ss_cons (sp_set 3 nd (se_com ks_lt (se_bin ks_mul se_int (se_var 2)) (se_var 1)))
  (ss_cons (sp_if (st_com (ks_eq hu) (se_var 0) (se_str [111, 117, 116]))
  (ss_one (sp_ret (se_ite (st_tru (se_var 3)) (se_bin ks_mul se_int (se_var 2)) (se_bin ks_add (se_bin ks_sub (se_bin ks_mul se_int (se_var 2)) (se_var 1)) se_int))))
  ss_nil)
  (ss_cons (sp_if (st_com (ks_eq hu) (se_var 0) (se_str [105, 110]))
  (ss_one (sp_ret (se_ite (st_tru (se_var 3)) (se_bin ks_add (se_bin ks_mul se_int (se_var 2)) se_int) (se_bin ks_sub (se_bin ks_mul se_int (se_var 2)) (se_var 1)))))
  ss_nil)
  (ss_one (sp_ret (se_ite (st_tru (se_var 3)) (se_bin ks_mul se_int (se_var 2)) (se_bin ks_sub (se_bin ks_sub (se_bin ks_mul se_int (se_var 1)) se_int) (se_bin ks_mul se_int (se_var 2)))))))))
set_option maxHeartbeats 8000000 in
theorem d__law_figures (T : Glob K mg)  {f : Addr} {kV doc pm cdv ct oc : Value} {an od : Option Addr} {osl : Array (Option Value)}
    (lk : K.lookup f = some ⟨oc, od, .func (PySem.W.fnOf "_law_figures" "_law_figures" (defArgs st__law_figures) (defBody st__law_figures) (defScope st__law_figures) .none kV doc pm an cdv ct), osl⟩) (hcd : PySem.W.codeIn K cdv "_law_figures" = true) :
    DefOk P w ⟨K, mg⟩ base 1 f (PySem.W.fnOf "_law_figures" "_law_figures" (defArgs st__law_figures) (defBody st__law_figures) (defScope st__law_figures) .none kV doc pm an cdv ct) ["number"] R__law_figures := by
  refine defOk_of (N := N__law_figures) lk hcd sc__law_figures fun A outer s H E hr hg => ?_
  have hu := hr.units
  have hu5 := units5 hr
  have nd : (N__law_figures).Nodup := sc__law_figures.nd
  have tk := @takes_of (bodyX P w K mg base N__law_figures "_law_figures" (defScope st__law_figures) f cdv A outer s H E) E rfl rfl rfl _ rfl
  have hpass : PassesOwn _ _ _ _ := @passes_of (bodyX P w K mg base N__law_figures "_law_figures" (defScope st__law_figures) f cdv A outer s H E) _ _ rfl
  exact (ss_cons (sp_set 1 nd (se_str []))
  (ss_cons (sp_while 1000 hpass (st_com ks_gt (se_var 0) se_int)
  (ss_one (sp_par (i := 1) (j := 0) rfl nd (sa_cons (se_bin ks_add (se_ix (se_lst (sa_cons (se_str [111]) (sa_cons (se_str [105]) sa_nil))) (se_bin ks_mod (se_bty cs_int (by rfl) T.n_int (sa_cons (se_var 0) sa_nil)) se_int)) (se_var 1)) (sa_cons (se_bin ks_fdv (se_var 0) se_int) sa_nil)))))
  (ss_one (sp_ret (se_var 1)))))
set_option maxHeartbeats 8000000 in
theorem d_need_number (T : Glob K mg) (GG_is_within : Gfn P w ⟨K, mg⟩ base 1 "is_within" st_is_within ["value", "least", "most"] G_is_within) {f : Addr} {kV doc pm cdv ct oc : Value} {an od : Option Addr} {osl : Array (Option Value)}
    (lk : K.lookup f = some ⟨oc, od, .func (PySem.W.fnOf "need_number" "need_number" (defArgs st_need_number) (defBody st_need_number) (defScope st_need_number) .none kV doc pm an cdv ct), osl⟩) (hcd : PySem.W.codeIn K cdv "need_number" = true) :
    DefOk P w ⟨K, mg⟩ base 2 f (PySem.W.fnOf "need_number" "need_number" (defArgs st_need_number) (defBody st_need_number) (defScope st_need_number) .none kV doc pm an cdv ct) ["value", "least", "most"] R_need_number := by
  refine defOk_of (N := N_need_number) lk hcd sc_need_number fun A outer s H E hr hg => ?_
  have hu := hr.units
  have hu5 := units5 hr
  have nd : (N_need_number).Nodup := sc_need_number.nd
  have tk := @takes_of (bodyX P w K mg base N_need_number "need_number" (defScope st_need_number) f cdv A outer s H E) E rfl rfl rfl _ rfl
  have hpass : PassesOwn _ _ _ _ := @passes_of (bodyX P w K mg base N_need_number "need_number" (defScope st_need_number) f cdv A outer s H E) _ _ rfl
  exact (ss_one (sp_if (st_not (st_tru (se_call 3 GG_is_within hr (by decide) hg tk (by rfl) kb_is_within_3 (sa_cons (se_var 0) (sa_cons (se_var 1) (sa_cons (se_var 2) sa_nil))))))
  (ss_one sp_never)
  ss_nil))
set_option maxHeartbeats 8000000 in
theorem d_need_shuffle (T : Glob K mg) (GG_is_shuffle : Gfn P w ⟨K, mg⟩ base 1 "is_shuffle" st_is_shuffle ["value"] G_is_shuffle) {f : Addr} {kV doc pm cdv ct oc : Value} {an od : Option Addr} {osl : Array (Option Value)}
    (lk : K.lookup f = some ⟨oc, od, .func (PySem.W.fnOf "need_shuffle" "need_shuffle" (defArgs st_need_shuffle) (defBody st_need_shuffle) (defScope st_need_shuffle) .none kV doc pm an cdv ct), osl⟩) (hcd : PySem.W.codeIn K cdv "need_shuffle" = true) :
    DefOk P w ⟨K, mg⟩ base 2 f (PySem.W.fnOf "need_shuffle" "need_shuffle" (defArgs st_need_shuffle) (defBody st_need_shuffle) (defScope st_need_shuffle) .none kV doc pm an cdv ct) ["value"] R_need_shuffle := by
  refine defOk_of (N := N_need_shuffle) lk hcd sc_need_shuffle fun A outer s H E hr hg => ?_
  have hu := hr.units
  have hu5 := units5 hr
  have nd : (N_need_shuffle).Nodup := sc_need_shuffle.nd
  have tk := @takes_of (bodyX P w K mg base N_need_shuffle "need_shuffle" (defScope st_need_shuffle) f cdv A outer s H E) E rfl rfl rfl _ rfl
  have hpass : PassesOwn _ _ _ _ := @passes_of (bodyX P w K mg base N_need_shuffle "need_shuffle" (defScope st_need_shuffle) f cdv A outer s H E) _ _ rfl
  exact (ss_one (sp_if (st_not (st_tru (se_call 1 GG_is_shuffle hr (by decide) hg tk (by rfl) kb_is_shuffle_1 (sa_cons (se_var 0) sa_nil))))
  (ss_one sp_never)
  ss_nil))
set_option maxHeartbeats 8000000 in
theorem d_is_size (T : Glob K mg) (GG_is_within : Gfn P w ⟨K, mg⟩ base 1 "is_within" st_is_within ["value", "least", "most"] G_is_within) {f : Addr} {kV doc pm cdv ct oc : Value} {an od : Option Addr} {osl : Array (Option Value)}
    (lk : K.lookup f = some ⟨oc, od, .func (PySem.W.fnOf "is_size" "is_size" (defArgs st_is_size) (defBody st_is_size) (defScope st_is_size) .none kV doc pm an cdv ct), osl⟩) (hcd : PySem.W.codeIn K cdv "is_size" = true) :
    DefOk P w ⟨K, mg⟩ base 2 f (PySem.W.fnOf "is_size" "is_size" (defArgs st_is_size) (defBody st_is_size) (defScope st_is_size) .none kV doc pm an cdv ct) ["value"] R_is_size := by
  refine defOk_of (N := N_is_size) lk hcd sc_is_size fun A outer s H E hr hg => ?_
  have hu := hr.units
  have hu5 := units5 hr
  have nd : (N_is_size).Nodup := sc_is_size.nd
  have tk := @takes_of (bodyX P w K mg base N_is_size "is_size" (defScope st_is_size) f cdv A outer s H E) E rfl rfl rfl _ rfl
  have hpass : PassesOwn _ _ _ _ := @passes_of (bodyX P w K mg base N_is_size "is_size" (defScope st_is_size) f cdv A outer s H E) _ _ rfl
  exact (ss_one (sp_ret (se_and (se_call 3 GG_is_within hr (by decide) hg tk (by rfl) kb_is_within_3 (sa_cons (se_var 0) (sa_cons se_int (sa_cons (se_gintE (by rfl) T.c_MOST_DECK) sa_nil)))) (se_one (se_com (ks_eq hu) (se_bin ks_mod (se_var 0) se_int) se_int)))))
set_option maxHeartbeats 8000000 in
theorem d__led (T : Glob K mg) (GG__modulus : Gfn P w ⟨K, mg⟩ base 1 "_modulus" st__modulus ["shuffle", "size"] G__modulus) {f : Addr} {kV doc pm cdv ct oc : Value} {an od : Option Addr} {osl : Array (Option Value)}
    (lk : K.lookup f = some ⟨oc, od, .func (PySem.W.fnOf "_led" "_led" (defArgs st__led) (defBody st__led) (defScope st__led) .none kV doc pm an cdv ct), osl⟩) (hcd : PySem.W.codeIn K cdv "_led" = true) :
    DefOk P w ⟨K, mg⟩ base 2 f (PySem.W.fnOf "_led" "_led" (defArgs st__led) (defBody st__led) (defScope st__led) .none kV doc pm an cdv ct) ["shuffle", "size", "place", "power"] R__led := by
  refine defOk_of (N := N__led) lk hcd sc__led fun A outer s H E hr hg => ?_
  have hu := hr.units
  have hu5 := units5 hr
  have nd : (N__led).Nodup := sc__led.nd
  have tk := @takes_of (bodyX P w K mg base N__led "_led" (defScope st__led) f cdv A outer s H E) E rfl rfl rfl _ rfl
  have hpass : PassesOwn _ _ _ _ := @passes_of (bodyX P w K mg base N__led "_led" (defScope st__led) f cdv A outer s H E) _ _ rfl
  exact (ss_cons (sp_set 4 nd (se_call 2 GG__modulus hr (by decide) hg tk (by rfl) kb__modulus_2 (sa_cons (se_var 0) (sa_cons (se_var 1) sa_nil))))
  (ss_cons (sp_if (st_com (ks_eq hu) (se_var 0) (se_str [111, 117, 116]))
  (ss_one (sp_ret (se_ite (st_com (ks_eq hu) (se_var 2) (se_bin ks_sub (se_var 1) se_int)) (se_var 2) (se_bin ks_mod (se_bin ks_mul (se_var 2) (se_var 3)) (se_var 4)))))
  ss_nil)
  (ss_cons (sp_if (st_com (ks_eq hu) (se_var 0) (se_str [105, 110]))
  (ss_one (sp_ret (se_bin ks_sub (se_bin ks_mod (se_bin ks_mul (se_bin ks_add (se_var 2) se_int) (se_var 3)) (se_var 4)) se_int)))
  ss_nil)
  (ss_cons (sp_set 5 nd (se_bin ks_mod (se_bin ks_mul (se_bin ks_mul se_int (se_var 2)) (se_var 3)) (se_var 4)))
  (ss_one (sp_ret (se_ite (st_com (ks_eq hu) (se_bin ks_mod (se_var 5) se_int) se_int) (se_bin ks_fdv (se_var 5) se_int) (se_bin ks_fdv (se_bin ks_sub (se_var 4) (se_var 5)) se_int))))))))
set_option maxHeartbeats 8000000 in
theorem d__law_of (T : Glob K mg) (GG__law_dice : Gfn P w ⟨K, mg⟩ base 1 "_law_dice" st__law_dice ["box", "sides"] G__law_dice) {f : Addr} {kV doc pm cdv ct oc : Value} {an od : Option Addr} {osl : Array (Option Value)}
    (lk : K.lookup f = some ⟨oc, od, .func (PySem.W.fnOf "_law_of" "_law_of" (defArgs st__law_of) (defBody st__law_of) (defScope st__law_of) .none kV doc pm an cdv ct), osl⟩) (hcd : PySem.W.codeIn K cdv "_law_of" = true) :
    DefOk P w ⟨K, mg⟩ base 2 f (PySem.W.fnOf "_law_of" "_law_of" (defArgs st__law_of) (defBody st__law_of) (defScope st__law_of) .none kV doc pm an cdv ct) ["box", "things"] R__law_of := by
  refine defOk_of (N := N__law_of) lk hcd sc__law_of fun A outer s H E hr hg => ?_
  have hu := hr.units
  have hu5 := units5 hr
  have nd : (N__law_of).Nodup := sc__law_of.nd
  have tk := @takes_of (bodyX P w K mg base N__law_of "_law_of" (defScope st__law_of) f cdv A outer s H E) E rfl rfl rfl _ rfl
  have hpass : PassesOwn _ _ _ _ := @passes_of (bodyX P w K mg base N__law_of "_law_of" (defScope st__law_of) f cdv A outer s H E) _ _ rfl
  exact (ss_one (sp_ret (se_ix (se_var 1) (se_call 2 GG__law_dice hr (by decide) hg tk (by rfl) kb__law_dice_2 (sa_cons (se_var 0) (sa_cons (se_blt cs_len (by rfl) T.n_len (sa_cons (se_var 1) sa_nil)) sa_nil))))))
set_option maxHeartbeats 8000000 in
theorem d__law_rows (T : Glob K mg) (GG__law_moved : Gfn P w ⟨K, mg⟩ base 1 "_law_moved" st__law_moved ["shuffle", "size", "place"] G__law_moved) {f : Addr} {kV doc pm cdv ct oc : Value} {an od : Option Addr} {osl : Array (Option Value)}
    (lk : K.lookup f = some ⟨oc, od, .func (PySem.W.fnOf "_law_rows" "_law_rows" (defArgs st__law_rows) (defBody st__law_rows) (defScope st__law_rows) .none kV doc pm an cdv ct), osl⟩) (hcd : PySem.W.codeIn K cdv "_law_rows" = true) :
    DefOk P w ⟨K, mg⟩ base 2 f (PySem.W.fnOf "_law_rows" "_law_rows" (defArgs st__law_rows) (defBody st__law_rows) (defScope st__law_rows) .none kV doc pm an cdv ct) ["size"] R__law_rows := by
  refine defOk_of (N := N__law_rows) lk hcd sc__law_rows fun A outer s H E hr hg => ?_
  have hu := hr.units
  have hu5 := units5 hr
  have nd : (N__law_rows).Nodup := sc__law_rows.nd
  have tk := @takes_of (bodyX P w K mg base N__law_rows "_law_rows" (defScope st__law_rows) f cdv A outer s H E) E rfl rfl rfl _ rfl
  have hpass : PassesOwn _ _ _ _ := @passes_of (bodyX P w K mg base N__law_rows "_law_rows" (defScope st__law_rows) f cdv A outer s H E) _ _ rfl
  exact (ss_cons (sp_par (i := 1) (j := 2) rfl nd (sa_cons (se_dsp (sd_cons se_int (se_str []) sd_nil)) (sa_cons (se_lst (sa_cons se_int sa_nil)) sa_nil)))
  (ss_cons (sp_while 1000 hpass (st_com (ks_ne hu) (se_var 2) (se_lst sa_nil))
  (ss_cons (sp_set 3 nd (se_lst sa_nil))
  (ss_cons (sp_for hpass rfl (si_any (se_var 2)) (sg_name 4 nd)
  (ss_one (sp_for hpass rfl (si_any (se_lst (sa_cons (se_str [105]) (sa_cons (se_str [111]) sa_nil)))) (sg_name 5 nd)
  (ss_cons (sp_set 6 nd (se_call 3 GG__law_moved hr (by decide) hg tk (by rfl) kb__law_moved_3 (sa_cons (se_ite (st_com (ks_eq hu) (se_var 5) (se_str [105])) (se_str [105, 110]) (se_str [111, 117, 116])) (sa_cons (se_var 0) (sa_cons (se_var 4) sa_nil)))))
  (ss_one (sp_if (st_com (ks_ninX hu hu5) (se_var 6) (se_var 1))
  (ss_cons (sp_asg (se_bin ks_add (se_ixD hu (se_var 1) (se_var 4)) (se_var 5)) (sg_subD hu (se_var 1) (se_var 6)))
  (ss_one (sp_expr (se_mth PySem.F.plainAttrs_list PySem.F.slot_list_append PySem.F.type_list_append ms_app (se_var 3) (sa_cons (se_var 6) sa_nil)))))
  ss_nil))))))
  (ss_one (sp_set 2 nd (se_var 3))))))
  (ss_one (sp_ret (se_var 1)))))
set_option maxHeartbeats 8000000 in
theorem d_need_size (T : Glob K mg) (GG_is_size : Gfn P w ⟨K, mg⟩ base 2 "is_size" st_is_size ["value"] G_is_size) {f : Addr} {kV doc pm cdv ct oc : Value} {an od : Option Addr} {osl : Array (Option Value)}
    (lk : K.lookup f = some ⟨oc, od, .func (PySem.W.fnOf "need_size" "need_size" (defArgs st_need_size) (defBody st_need_size) (defScope st_need_size) .none kV doc pm an cdv ct), osl⟩) (hcd : PySem.W.codeIn K cdv "need_size" = true) :
    DefOk P w ⟨K, mg⟩ base 3 f (PySem.W.fnOf "need_size" "need_size" (defArgs st_need_size) (defBody st_need_size) (defScope st_need_size) .none kV doc pm an cdv ct) ["value"] R_need_size := by
  refine defOk_of (N := N_need_size) lk hcd sc_need_size fun A outer s H E hr hg => ?_
  have hu := hr.units
  have hu5 := units5 hr
  have nd : (N_need_size).Nodup := sc_need_size.nd
  have tk := @takes_of (bodyX P w K mg base N_need_size "need_size" (defScope st_need_size) f cdv A outer s H E) E rfl rfl rfl _ rfl
  have hpass : PassesOwn _ _ _ _ := @passes_of (bodyX P w K mg base N_need_size "need_size" (defScope st_need_size) f cdv A outer s H E) _ _ rfl
  exact (ss_one (sp_if (st_not (st_tru (se_call 1 GG_is_size hr (by decide) hg tk (by rfl) kb_is_size_1 (sa_cons (se_var 0) sa_nil))))
  (ss_one sp_never)
  ss_nil))
set_option maxHeartbeats 8000000 in
theorem d_place_after (T : Glob K mg) (GG__led : Gfn P w ⟨K, mg⟩ base 2 "_led" st__led ["shuffle", "size", "place", "power"] G__led) (GG__modulus : Gfn P w ⟨K, mg⟩ base 1 "_modulus" st__modulus ["shuffle", "size"] G__modulus) (GG__power_of_two : Gfn P w ⟨K, mg⟩ base 1 "_power_of_two" st__power_of_two ["exponent", "modulus"] G__power_of_two) (GG_need_number : Gfn P w ⟨K, mg⟩ base 2 "need_number" st_need_number ["value", "least", "most"] G_need_number) (GG_need_shuffle : Gfn P w ⟨K, mg⟩ base 2 "need_shuffle" st_need_shuffle ["value"] G_need_shuffle) (GG_need_size : Gfn P w ⟨K, mg⟩ base 3 "need_size" st_need_size ["value"] G_need_size) {f : Addr} {kV doc pm cdv ct oc : Value} {an od : Option Addr} {osl : Array (Option Value)}
    (lk : K.lookup f = some ⟨oc, od, .func (PySem.W.fnOf "place_after" "place_after" (defArgs st_place_after) (defBody st_place_after) (defScope st_place_after) .none kV doc pm an cdv ct), osl⟩) (hcd : PySem.W.codeIn K cdv "place_after" = true) :
    DefOk P w ⟨K, mg⟩ base 4 f (PySem.W.fnOf "place_after" "place_after" (defArgs st_place_after) (defBody st_place_after) (defScope st_place_after) .none kV doc pm an cdv ct) ["shuffle", "size", "number", "times"] R_place_after := by
  refine defOk_of (N := N_place_after) lk hcd sc_place_after fun A outer s H E hr hg => ?_
  have hu := hr.units
  have hu5 := units5 hr
  have nd : (N_place_after).Nodup := sc_place_after.nd
  have tk := @takes_of (bodyX P w K mg base N_place_after "place_after" (defScope st_place_after) f cdv A outer s H E) E rfl rfl rfl _ rfl
  have hpass : PassesOwn _ _ _ _ := @passes_of (bodyX P w K mg base N_place_after "place_after" (defScope st_place_after) f cdv A outer s H E) _ _ rfl
  exact (ss_cons (sp_expr (se_call 1 GG_need_shuffle hr (by decide) hg tk (by rfl) kb_need_shuffle_1 (sa_cons (se_var 0) sa_nil)))
  (ss_cons (sp_expr (se_call 1 GG_need_size hr (by decide) hg tk (by rfl) kb_need_size_1 (sa_cons (se_var 1) sa_nil)))
  (ss_cons (sp_expr (se_call 3 GG_need_number hr (by decide) hg tk (by rfl) kb_need_number_3 (sa_cons (se_var 2) (sa_cons se_int (sa_cons (se_bin ks_sub (se_var 1) se_int) sa_nil)))))
  (ss_cons (sp_expr (se_call 3 GG_need_number hr (by decide) hg tk (by rfl) kb_need_number_3 (sa_cons (se_var 3) (sa_cons se_int (sa_cons (se_gintE (by rfl) T.c__MOST_TIMES) sa_nil)))))
  (ss_one (sp_ret (se_call 4 GG__led hr (by decide) hg tk (by rfl) kb__led_4 (sa_cons (se_var 0) (sa_cons (se_var 1) (sa_cons (se_var 2) (sa_cons (se_call 2 GG__power_of_two hr (by decide) hg tk (by rfl) kb__power_of_two_2 (sa_cons (se_var 3) (sa_cons (se_call 2 GG__modulus hr (by decide) hg tk (by rfl) kb__modulus_2 (sa_cons (se_var 0) (sa_cons (se_var 1) sa_nil))) sa_nil))) sa_nil)))))))))))
set_option maxHeartbeats 8000000 in
theorem d_row_to (T : Glob K mg) (GG_need_number : Gfn P w ⟨K, mg⟩ base 2 "need_number" st_need_number ["value", "least", "most"] G_need_number) (GG_need_size : Gfn P w ⟨K, mg⟩ base 3 "need_size" st_need_size ["value"] G_need_size) {f : Addr} {kV doc pm cdv ct oc : Value} {an od : Option Addr} {osl : Array (Option Value)}
    (lk : K.lookup f = some ⟨oc, od, .func (PySem.W.fnOf "row_to" "row_to" (defArgs st_row_to) (defBody st_row_to) (defScope st_row_to) .none kV doc pm an cdv ct), osl⟩) (hcd : PySem.W.codeIn K cdv "row_to" = true) :
    DefOk P w ⟨K, mg⟩ base 4 f (PySem.W.fnOf "row_to" "row_to" (defArgs st_row_to) (defBody st_row_to) (defScope st_row_to) .none kV doc pm an cdv ct) ["size", "number"] R_row_to := by
  refine defOk_of (N := N_row_to) lk hcd sc_row_to fun A outer s H E hr hg => ?_
  have hu := hr.units
  have hu5 := units5 hr
  have nd : (N_row_to).Nodup := sc_row_to.nd
  have tk := @takes_of (bodyX P w K mg base N_row_to "row_to" (defScope st_row_to) f cdv A outer s H E) E rfl rfl rfl _ rfl
  have hpass : PassesOwn _ _ _ _ := @passes_of (bodyX P w K mg base N_row_to "row_to" (defScope st_row_to) f cdv A outer s H E) _ _ rfl
  exact (ss_cons (sp_expr (se_call 1 GG_need_size hr (by decide) hg tk (by rfl) kb_need_size_1 (sa_cons (se_var 0) sa_nil)))
  (ss_cons (sp_expr (se_call 3 GG_need_number hr (by decide) hg tk (by rfl) kb_need_number_3 (sa_cons (se_var 1) (sa_cons se_int (sa_cons (se_bin ks_sub (se_var 0) se_int) sa_nil)))))
  (ss_cons (sp_set 2 nd (se_lst sa_nil))
  (ss_cons (sp_set 3 nd (se_var 1))
  (ss_cons (sp_while 1000 hpass (st_com ks_gt (se_var 3) se_int)
  (ss_cons (sp_expr (se_mth PySem.F.plainAttrs_list PySem.F.slot_list_append PySem.F.type_list_append ms_app (se_var 2) (sa_cons (se_ite (st_com (ks_eq hu) (se_bin ks_mod (se_var 3) se_int) se_int) (se_str [105]) (se_str [111])) sa_nil)))
  (ss_one (sp_set 3 nd (se_bin ks_fdv (se_var 3) se_int)))))
  (ss_one (sp_ret (se_mth PySem.F.plainAttrs_str PySem.F.slot_str_join PySem.F.type_str_join ms_join (se_str []) (sa_cons (se_rev (se_var 2)) sa_nil)))))))))
set_option maxHeartbeats 8000000 in
theorem d__law_led (T : Glob K mg) (GG_place_after : Gfn P w ⟨K, mg⟩ base 4 "place_after" st_place_after ["shuffle", "size", "number", "times"] G_place_after) {f : Addr} {kV doc pm cdv ct oc : Value} {an od : Option Addr} {osl : Array (Option Value)}
    (lk : K.lookup f = some ⟨oc, od, .func (PySem.W.fnOf "_law_led" "_law_led" (defArgs st__law_led) (defBody st__law_led) (defScope st__law_led) .none kV doc pm an cdv ct), osl⟩) (hcd : PySem.W.codeIn K cdv "_law_led" = true) :
    DefOk P w ⟨K, mg⟩ base 5 f (PySem.W.fnOf "_law_led" "_law_led" (defArgs st__law_led) (defBody st__law_led) (defScope st__law_led) .none kV doc pm an cdv ct) ["size", "words"] R__law_led := by
  refine defOk_of (N := N__law_led) lk hcd sc__law_led fun A outer s H E hr hg => ?_
  have hu := hr.units
  have hu5 := units5 hr
  have nd : (N__law_led).Nodup := sc__law_led.nd
  have tk := @takes_of (bodyX P w K mg base N__law_led "_law_led" (defScope st__law_led) f cdv A outer s H E) E rfl rfl rfl _ rfl
  have hpass : PassesOwn _ _ _ _ := @passes_of (bodyX P w K mg base N__law_led "_law_led" (defScope st__law_led) f cdv A outer s H E) _ _ rfl
  exact (ss_cons (sp_set 2 nd se_int)
  (ss_cons (sp_for hpass rfl (si_any (se_var 1)) (sg_name 3 nd)
  (ss_one (sp_set 2 nd (se_call 4 GG_place_after hr (by decide) hg tk (by rfl) kb_place_after_4 (sa_cons (se_ite (st_com (ks_eq hu) (se_var 3) (se_str [105])) (se_str [105, 110]) (se_str [111, 117, 116])) (sa_cons (se_var 0) (sa_cons (se_var 2) (sa_cons se_int sa_nil))))))))
  (ss_one (sp_ret (se_var 2)))))
set_option maxHeartbeats 8000000 in
theorem d__law_great_right (T : Glob K mg) (GG__law_dice : Gfn P w ⟨K, mg⟩ base 1 "_law_dice" st__law_dice ["box", "sides"] G__law_dice) (GG__law_figures : Gfn P w ⟨K, mg⟩ base 1 "_law_figures" st__law_figures ["number"] G__law_figures) (GG__law_led : Gfn P w ⟨K, mg⟩ base 5 "_law_led" st__law_led ["size", "words"] G__law_led) (GG__law_of : Gfn P w ⟨K, mg⟩ base 2 "_law_of" st__law_of ["box", "things"] G__law_of) (GG_row_to : Gfn P w ⟨K, mg⟩ base 4 "row_to" st_row_to ["size", "number"] G_row_to) {f : Addr} {kV doc pm cdv ct oc : Value} {an od : Option Addr} {osl : Array (Option Value)}
    (lk : K.lookup f = some ⟨oc, od, .func (PySem.W.fnOf "_law_great_right" "_law_great_right" (defArgs st__law_great_right) (defBody st__law_great_right) (defScope st__law_great_right) .none kV doc pm an cdv ct), osl⟩) (hcd : PySem.W.codeIn K cdv "_law_great_right" = true) :
    DefOk P w ⟨K, mg⟩ base 6 f (PySem.W.fnOf "_law_great_right" "_law_great_right" (defArgs st__law_great_right) (defBody st__law_great_right) (defScope st__law_great_right) .none kV doc pm an cdv ct) ["box"] R__law_great_right := by
  refine defOk_of (N := N__law_great_right) lk hcd sc__law_great_right fun A outer s H E hr hg => ?_
  have hu := hr.units
  have hu5 := units5 hr
  have nd : (N__law_great_right).Nodup := sc__law_great_right.nd
  have tk := @takes_of (bodyX P w K mg base N__law_great_right "_law_great_right" (defScope st__law_great_right) f cdv A outer s H E) E rfl rfl rfl _ rfl
  have hpass : PassesOwn _ _ _ _ := @passes_of (bodyX P w K mg base N__law_great_right "_law_great_right" (defScope st__law_great_right) f cdv A outer s H E) _ _ rfl
  exact (ss_cons (sp_set 1 nd (se_call 2 GG__law_of hr (by decide) hg tk (by rfl) kb__law_of_2 (sa_cons (se_var 0) (sa_cons (se_lst (sa_cons se_int (sa_cons (se_bin ks_pow se_int se_int) (sa_cons (se_bin ks_pow se_int se_int) (sa_cons (se_bin ks_pow se_int se_int) (sa_cons (se_bin ks_add se_int (se_bin ks_mul se_int (se_call 2 GG__law_dice hr (by decide) hg tk (by rfl) kb__law_dice_2 (sa_cons (se_var 0) (sa_cons se_int sa_nil))))) (sa_cons (se_bin ks_add se_int (se_bin ks_mul se_int (se_call 2 GG__law_dice hr (by decide) hg tk (by rfl) kb__law_dice_2 (sa_cons (se_var 0) (sa_cons se_int sa_nil))))) sa_nil))))))) sa_nil))))
  (ss_cons (sp_set 2 nd (se_call 2 GG__law_of hr (by decide) hg tk (by rfl) kb__law_of_2 (sa_cons (se_var 0) (sa_cons (se_lst (sa_cons (se_call 2 GG__law_dice hr (by decide) hg tk (by rfl) kb__law_dice_2 (sa_cons (se_var 0) (sa_cons (se_var 1) sa_nil))) (sa_cons (se_call 2 GG__law_dice hr (by decide) hg tk (by rfl) kb__law_dice_2 (sa_cons (se_var 0) (sa_cons (se_var 1) sa_nil))) (sa_cons (se_bin ks_sub (se_var 1) se_int) (sa_cons (se_bin ks_fdv (se_var 1) se_int) (sa_cons se_int sa_nil)))))) sa_nil))))
  (ss_cons (sp_set 3 nd (se_call 2 GG_row_to hr (by decide) hg tk (by rfl) kb_row_to_2 (sa_cons (se_var 1) (sa_cons (se_var 2) sa_nil))))
  (ss_one (sp_ret (se_and (se_com (ks_eq hu) (se_var 3) (se_call 1 GG__law_figures hr (by decide) hg tk (by rfl) kb__law_figures_1 (sa_cons (se_var 2) sa_nil))) (se_one (se_com (ks_eq hu) (se_call 2 GG__law_led hr (by decide) hg tk (by rfl) kb__law_led_2 (sa_cons (se_var 1) (sa_cons (se_var 3) sa_nil))) (se_var 2)))))))))
set_option maxHeartbeats 8000000 in
theorem d__law_right (T : Glob K mg) (GG__law_dice : Gfn P w ⟨K, mg⟩ base 1 "_law_dice" st__law_dice ["box", "sides"] G__law_dice) (GG__law_figures : Gfn P w ⟨K, mg⟩ base 1 "_law_figures" st__law_figures ["number"] G__law_figures) (GG__law_great_right : Gfn P w ⟨K, mg⟩ base 6 "_law_great_right" st__law_great_right ["box"] G__law_great_right) (GG__law_led : Gfn P w ⟨K, mg⟩ base 5 "_law_led" st__law_led ["size", "words"] G__law_led) (GG__law_of : Gfn P w ⟨K, mg⟩ base 2 "_law_of" st__law_of ["box", "things"] G__law_of) (GG__law_rows : Gfn P w ⟨K, mg⟩ base 2 "_law_rows" st__law_rows ["size"] G__law_rows) (GG_row_to : Gfn P w ⟨K, mg⟩ base 4 "row_to" st_row_to ["size", "number"] G_row_to) {f : Addr} {kV doc pm cdv ct oc : Value} {an od : Option Addr} {osl : Array (Option Value)}
    (lk : K.lookup f = some ⟨oc, od, .func (PySem.W.fnOf "_law_right" "_law_right" (defArgs st__law_right) (defBody st__law_right) (defScope st__law_right) .none kV doc pm an cdv ct), osl⟩) (hcd : PySem.W.codeIn K cdv "_law_right" = true) :
    DefOk P w ⟨K, mg⟩ base 7 f (PySem.W.fnOf "_law_right" "_law_right" (defArgs st__law_right) (defBody st__law_right) (defScope st__law_right) .none kV doc pm an cdv ct) ["box"] R__law_right := by
  refine defOk_of (N := N__law_right) lk hcd sc__law_right fun A outer s H E hr hg => ?_
  have hu := hr.units
  have hu5 := units5 hr
  have nd : (N__law_right).Nodup := sc__law_right.nd
  have tk := @takes_of (bodyX P w K mg base N__law_right "_law_right" (defScope st__law_right) f cdv A outer s H E) E rfl rfl rfl _ rfl
  have hpass : PassesOwn _ _ _ _ := @passes_of (bodyX P w K mg base N__law_right "_law_right" (defScope st__law_right) f cdv A outer s H E) _ _ rfl
  exact (ss_cons (sp_for hpass rfl (si_rg1 (by rfl) T.n_range (sa_cons se_int sa_nil)) (sg_name 1 nd)
  (ss_cons (sp_set 2 nd (se_bin ks_add se_int (se_bin ks_mul se_int (se_call 2 GG__law_dice hr (by decide) hg tk (by rfl) kb__law_dice_2 (sa_cons (se_var 0) (sa_cons (se_call 2 GG__law_of hr (by decide) hg tk (by rfl) kb__law_of_2 (sa_cons (se_var 0) (sa_cons (se_lst (sa_cons se_int (sa_cons se_int (sa_cons se_int sa_nil)))) sa_nil))) sa_nil))))))
  (ss_cons (sp_set 3 nd (se_call 1 GG__law_rows hr (by decide) hg tk (by rfl) kb__law_rows_1 (sa_cons (se_var 2) sa_nil)))
  (ss_cons (sp_if (st_com (ks_ne hu) (se_blt (cs_srtD rfl) (by rfl) T.n_sorted (sa_cons (se_var 3) sa_nil)) (se_lstRg1 rfl (by rfl) T.n_list (by rfl) T.n_range (se_var 2)))
  (ss_one (sp_ret se_bl))
  ss_nil)
  (ss_cons (sp_set 4 nd (se_lstRg1 rfl (by rfl) T.n_list (by rfl) T.n_range (se_var 2)))
  (ss_cons (sp_if (st_com ks_gt (se_var 2) se_int)
  (ss_one (sp_set 4 nd (se_bin ks_add (se_lst (sa_cons se_int (sa_cons (se_bin ks_sub (se_var 2) se_int) sa_nil))) (se_lc rfl nd (si_rg1 (by rfl) T.n_range (sa_cons se_int sa_nil)) (blkOk_by (own := [("k", 7)]) (N := N__law_right) (sc := defScope st__law_right) (by decide +kernel)) (nt_name 7) (fun _ _ _ _ _ => (pg_name (i := 7) nd rfl (by first | exact Or.inl rfl | exact Or.inr rfl))) (fun _ _ _ _ _ => sts_nil) (fun _ _ _ _ _ => (se_call 2 GG__law_dice hr (by decide) hg takes0 (by rfl) kb__law_dice_2 (sa_cons (se_var 0) (sa_cons (se_var 2) sa_nil))))))))
  ss_nil)
  (ss_cons (sp_for hpass rfl (si_any (se_var 4)) (sg_name 5 nd)
  (ss_one (sp_if (st_com (ks_ne hu) (se_blt (cs_rpr hg hu) (by rfl) T.n_repr (sa_cons (se_call 2 GG_row_to hr (by decide) hg tk (by rfl) kb_row_to_2 (sa_cons (se_var 2) (sa_cons (se_var 5) sa_nil))) sa_nil)) (se_blt (cs_rpr hg hu) (by rfl) T.n_repr (sa_cons (se_ixD hu (se_var 3) (se_var 5)) sa_nil)))
  (ss_one (sp_ret se_bl))
  ss_nil)))
  (ss_cons (sp_set 5 nd (se_call 2 GG__law_dice hr (by decide) hg tk (by rfl) kb__law_dice_2 (sa_cons (se_var 0) (sa_cons (se_var 2) sa_nil))))
  (ss_cons (sp_if (PW.pt (sw_or (st_com (ks_ne hu) (se_callK0 2 GG_row_to hr (by decide) hg tk (by rfl) kb_row_to_0_number_size (sk_cons (se_var 5) (sk_cons (se_var 2) sk_nil))) (se_ixD hu (se_var 3) (se_var 5))) (sw_or1 (st_com (ks_ne hu) (se_call 2 GG__law_led hr (by decide) hg tk (by rfl) kb__law_led_2 (sa_cons (se_var 2) (sa_cons (se_ixD hu (se_var 3) (se_var 5)) sa_nil))) (se_var 5)))))
  (ss_one (sp_ret se_bl))
  ss_nil)
  (ss_cons (sp_if (st_com (ks_ne hu) (se_ixD hu (se_var 3) (se_var 5)) (se_call 1 GG__law_figures hr (by decide) hg tk (by rfl) kb__law_figures_1 (sa_cons (se_var 5) sa_nil)))
  (ss_one (sp_ret se_bl))
  ss_nil)
  (ss_cons (sp_set 6 nd (se_mth PySem.F.plainAttrs_str PySem.F.slot_str_join PySem.F.type_str_join ms_join (se_str []) (sa_cons (se_lc rfl nd (si_rg1 (by rfl) T.n_range (sa_cons (se_call 2 GG__law_dice hr (by decide) hg tk (by rfl) kb__law_dice_2 (sa_cons (se_var 0) (sa_cons se_int sa_nil))) sa_nil)) (blkOk_by (own := [("k", 7)]) (N := N__law_right) (sc := defScope st__law_right) (by decide +kernel)) (nt_name 7) (fun _ _ _ _ _ => (pg_name (i := 7) nd rfl (by first | exact Or.inl rfl | exact Or.inr rfl))) (fun _ _ _ _ _ => sts_nil) (fun _ _ _ _ _ => (se_call 2 GG__law_of hr (by decide) hg takes0 (by rfl) kb__law_of_2 (sa_cons (se_var 0) (sa_cons (se_str [105, 111]) sa_nil))))) sa_nil)))
  (ss_one (sp_if (st_com ks_gt (se_blt cs_len (by rfl) T.n_len (sa_cons (se_call 2 GG_row_to hr (by decide) hg tk (by rfl) kb_row_to_2 (sa_cons (se_var 2) (sa_cons (se_call 2 GG__law_led hr (by decide) hg tk (by rfl) kb__law_led_2 (sa_cons (se_var 2) (sa_cons (se_var 6) sa_nil))) sa_nil))) sa_nil)) (se_blt cs_len (by rfl) T.n_len (sa_cons (se_var 6) sa_nil)))
  (ss_one (sp_ret se_bl))
  ss_nil)))))))))))))
  (ss_one (sp_ret (se_call 1 GG__law_great_right hr (by decide) hg tk (by rfl) kb__law_great_right_1 (sa_cons (se_var 0) sa_nil)))))
set_option maxHeartbeats 8000000 in
theorem d_law (T : Glob K mg) (GG__law_box : Gfn P w ⟨K, mg⟩ base 1 "_law_box" st__law_box ["script", "k"] G__law_box) (GG__law_right : Gfn P w ⟨K, mg⟩ base 7 "_law_right" st__law_right ["box"] G__law_right) {f : Addr} {kV doc pm cdv ct oc : Value} {an od : Option Addr} {osl : Array (Option Value)}
    (lk : K.lookup f = some ⟨oc, od, .func (PySem.W.fnOf "law" "law" (defArgs st_law) (defBody st_law) (defScope st_law) .none kV doc pm an cdv ct), osl⟩) (hcd : PySem.W.codeIn K cdv "law" = true) :
    DefOk P w ⟨K, mg⟩ base 8 f (PySem.W.fnOf "law" "law" (defArgs st_law) (defBody st_law) (defScope st_law) .none kV doc pm an cdv ct) ["script"] R_law := by
  refine defOk_of (N := N_law) lk hcd sc_law fun A outer s H E hr hg => ?_
  have hu := hr.units
  have hu5 := units5 hr
  have nd : (N_law).Nodup := sc_law.nd
  have tk := @takes_of (bodyX P w K mg base N_law "law" (defScope st_law) f cdv A outer s H E) E rfl rfl rfl _ rfl
  have hpass : PassesOwn _ _ _ _ := @passes_of (bodyX P w K mg base N_law "law" (defScope st_law) f cdv A outer s H E) _ _ rfl
  exact (ss_one (sp_ret (se_blt (cs_all rfl) (by rfl) T.n_all (sa_cons (se_lc rfl nd (si_rg1 (by rfl) T.n_range (sa_cons (se_blt (cs_max rfl) (by rfl) T.n_max (sa_cons se_int (sa_cons (se_blt (cs_min rfl) (by rfl) T.n_min (sa_cons (se_blt cs_len (by rfl) T.n_len (sa_cons (se_var 0) sa_nil)) (sa_cons se_int sa_nil))) sa_nil))) sa_nil)) (blkOk_by (own := [("k", 1)]) (N := N_law) (sc := defScope st_law) (by decide +kernel)) (nt_name 1) (fun _ _ _ _ _ => (pg_name (i := 1) nd rfl (by first | exact Or.inl rfl | exact Or.inr rfl))) (fun _ _ _ _ _ => sts_nil) (fun _ _ _ _ _ => (se_call 1 GG__law_right hr (by decide) hg takes0 (by rfl) kb__law_right_1 (sa_cons (se_call 2 GG__law_box hr (by decide) hg takes0 (by rfl) kb__law_box_2 (sa_cons (se_var 0) (sa_cons (se_var 1) sa_nil))) sa_nil)))) sa_nil))))
end
section
variable {P : Program} {w : World} {K : PySem.W.Frag} {h : Heap} {mg : Str → Option Value} {fa : Addr}
set_option maxHeartbeats 8000000 in
theorem all_mk (X : K.In h) (G : h.Ns mainGlobals mg) (hfa : mg "law" = some (.ref fa)) {f_0 f_1 f_2 f_3 f_4 f_5 f_6 f_7 f_8 f_9 f_10 f_11 f_12 f_13 f_14 f_15 f_16 f_17 f_18 f_19 f_20 : Addr} {od_0 od_1 od_2 od_3 od_4 od_5 od_6 od_7 od_8 od_9 od_10 od_11 od_12 od_13 od_14 od_15 od_16 od_17 od_18 od_19 od_20 an_0 an_1 an_2 an_3 an_4 an_5 an_6 an_7 an_8 an_9 an_10 an_11 an_12 an_13 an_14 an_15 an_16 an_17 an_18 an_19 an_20 : Option Addr} {sl_0 sl_1 sl_2 sl_3 sl_4 sl_5 sl_6 sl_7 sl_8 sl_9 sl_10 sl_11 sl_12 sl_13 sl_14 sl_15 sl_16 sl_17 sl_18 sl_19 sl_20 : Array (Option Value)} {oc_0 oc_1 oc_2 oc_3 oc_4 oc_5 oc_6 oc_7 oc_8 oc_9 oc_10 oc_11 oc_12 oc_13 oc_14 oc_15 oc_16 oc_17 oc_18 oc_19 oc_20 kV_0 kV_1 kV_2 kV_3 kV_4 kV_5 kV_6 kV_7 kV_8 kV_9 kV_10 kV_11 kV_12 kV_13 kV_14 kV_15 kV_16 kV_17 kV_18 kV_19 kV_20 dc_0 dc_1 dc_2 dc_3 dc_4 dc_5 dc_6 dc_7 dc_8 dc_9 dc_10 dc_11 dc_12 dc_13 dc_14 dc_15 dc_16 dc_17 dc_18 dc_19 dc_20 pm_0 pm_1 pm_2 pm_3 pm_4 pm_5 pm_6 pm_7 pm_8 pm_9 pm_10 pm_11 pm_12 pm_13 pm_14 pm_15 pm_16 pm_17 pm_18 pm_19 pm_20 cd_0 cd_1 cd_2 cd_3 cd_4 cd_5 cd_6 cd_7 cd_8 cd_9 cd_10 cd_11 cd_12 cd_13 cd_14 cd_15 cd_16 cd_17 cd_18 cd_19 cd_20 ct_0 ct_1 ct_2 ct_3 ct_4 ct_5 ct_6 ct_7 ct_8 ct_9 ct_10 ct_11 ct_12 ct_13 ct_14 ct_15 ct_16 ct_17 ct_18 ct_19 ct_20 : Value} {t_MOST_DECK t__MOST_TIMES : Tok} {tu__SHUFFLES : Addr} {odt__SHUFFLES : Option Addr} {nt__SHUFFLES : Nat} {slt__SHUFFLES : Array (Option Value)} {tk__SHUFFLES_0 tk__SHUFFLES_1 tk__SHUFFLES_2 : Tok}
    (a_is_within : PySem.W.nsIn K mainGlobals "is_within" = some (some (.ref f_0))) (l_is_within : K.lookup f_0 = some ⟨oc_0, od_0, .func (PySem.W.fnOf "is_within" "is_within" (defArgs st_is_within) (defBody st_is_within) (defScope st_is_within) .none kV_0 dc_0 pm_0 an_0 cd_0 ct_0), sl_0⟩) (c_is_within : PySem.W.codeIn K cd_0 "is_within" = true) (k_is_within : PySem.W.keepIn K (.ref f_0) = true)
    (a_is_shuffle : PySem.W.nsIn K mainGlobals "is_shuffle" = some (some (.ref f_1))) (l_is_shuffle : K.lookup f_1 = some ⟨oc_1, od_1, .func (PySem.W.fnOf "is_shuffle" "is_shuffle" (defArgs st_is_shuffle) (defBody st_is_shuffle) (defScope st_is_shuffle) .none kV_1 dc_1 pm_1 an_1 cd_1 ct_1), sl_1⟩) (c_is_shuffle : PySem.W.codeIn K cd_1 "is_shuffle" = true) (k_is_shuffle : PySem.W.keepIn K (.ref f_1) = true)
    (a__modulus : PySem.W.nsIn K mainGlobals "_modulus" = some (some (.ref f_2))) (l__modulus : K.lookup f_2 = some ⟨oc_2, od_2, .func (PySem.W.fnOf "_modulus" "_modulus" (defArgs st__modulus) (defBody st__modulus) (defScope st__modulus) .none kV_2 dc_2 pm_2 an_2 cd_2 ct_2), sl_2⟩) (c__modulus : PySem.W.codeIn K cd_2 "_modulus" = true) (k__modulus : PySem.W.keepIn K (.ref f_2) = true)
    (a__power_of_two : PySem.W.nsIn K mainGlobals "_power_of_two" = some (some (.ref f_3))) (l__power_of_two : K.lookup f_3 = some ⟨oc_3, od_3, .func (PySem.W.fnOf "_power_of_two" "_power_of_two" (defArgs st__power_of_two) (defBody st__power_of_two) (defScope st__power_of_two) .none kV_3 dc_3 pm_3 an_3 cd_3 ct_3), sl_3⟩) (c__power_of_two : PySem.W.codeIn K cd_3 "_power_of_two" = true) (k__power_of_two : PySem.W.keepIn K (.ref f_3) = true)
    (a__law_box : PySem.W.nsIn K mainGlobals "_law_box" = some (some (.ref f_4))) (l__law_box : K.lookup f_4 = some ⟨oc_4, od_4, .func (PySem.W.fnOf "_law_box" "_law_box" (defArgs st__law_box) (defBody st__law_box) (defScope st__law_box) .none kV_4 dc_4 pm_4 an_4 cd_4 ct_4), sl_4⟩) (c__law_box : PySem.W.codeIn K cd_4 "_law_box" = true) (k__law_box : PySem.W.keepIn K (.ref f_4) = true)
    (a__law_dice : PySem.W.nsIn K mainGlobals "_law_dice" = some (some (.ref f_5))) (l__law_dice : K.lookup f_5 = some ⟨oc_5, od_5, .func (PySem.W.fnOf "_law_dice" "_law_dice" (defArgs st__law_dice) (defBody st__law_dice) (defScope st__law_dice) .none kV_5 dc_5 pm_5 an_5 cd_5 ct_5), sl_5⟩) (c__law_dice : PySem.W.codeIn K cd_5 "_law_dice" = true) (k__law_dice : PySem.W.keepIn K (.ref f_5) = true)
    (a__law_moved : PySem.W.nsIn K mainGlobals "_law_moved" = some (some (.ref f_6))) (l__law_moved : K.lookup f_6 = some ⟨oc_6, od_6, .func (PySem.W.fnOf "_law_moved" "_law_moved" (defArgs st__law_moved) (defBody st__law_moved) (defScope st__law_moved) .none kV_6 dc_6 pm_6 an_6 cd_6 ct_6), sl_6⟩) (c__law_moved : PySem.W.codeIn K cd_6 "_law_moved" = true) (k__law_moved : PySem.W.keepIn K (.ref f_6) = true)
    (a__law_figures : PySem.W.nsIn K mainGlobals "_law_figures" = some (some (.ref f_7))) (l__law_figures : K.lookup f_7 = some ⟨oc_7, od_7, .func (PySem.W.fnOf "_law_figures" "_law_figures" (defArgs st__law_figures) (defBody st__law_figures) (defScope st__law_figures) .none kV_7 dc_7 pm_7 an_7 cd_7 ct_7), sl_7⟩) (c__law_figures : PySem.W.codeIn K cd_7 "_law_figures" = true) (k__law_figures : PySem.W.keepIn K (.ref f_7) = true)
    (a_need_number : PySem.W.nsIn K mainGlobals "need_number" = some (some (.ref f_8))) (l_need_number : K.lookup f_8 = some ⟨oc_8, od_8, .func (PySem.W.fnOf "need_number" "need_number" (defArgs st_need_number) (defBody st_need_number) (defScope st_need_number) .none kV_8 dc_8 pm_8 an_8 cd_8 ct_8), sl_8⟩) (c_need_number : PySem.W.codeIn K cd_8 "need_number" = true) (k_need_number : PySem.W.keepIn K (.ref f_8) = true)
    (a_need_shuffle : PySem.W.nsIn K mainGlobals "need_shuffle" = some (some (.ref f_9))) (l_need_shuffle : K.lookup f_9 = some ⟨oc_9, od_9, .func (PySem.W.fnOf "need_shuffle" "need_shuffle" (defArgs st_need_shuffle) (defBody st_need_shuffle) (defScope st_need_shuffle) .none kV_9 dc_9 pm_9 an_9 cd_9 ct_9), sl_9⟩) (c_need_shuffle : PySem.W.codeIn K cd_9 "need_shuffle" = true) (k_need_shuffle : PySem.W.keepIn K (.ref f_9) = true)
    (a_is_size : PySem.W.nsIn K mainGlobals "is_size" = some (some (.ref f_10))) (l_is_size : K.lookup f_10 = some ⟨oc_10, od_10, .func (PySem.W.fnOf "is_size" "is_size" (defArgs st_is_size) (defBody st_is_size) (defScope st_is_size) .none kV_10 dc_10 pm_10 an_10 cd_10 ct_10), sl_10⟩) (c_is_size : PySem.W.codeIn K cd_10 "is_size" = true) (k_is_size : PySem.W.keepIn K (.ref f_10) = true)
    (a__led : PySem.W.nsIn K mainGlobals "_led" = some (some (.ref f_11))) (l__led : K.lookup f_11 = some ⟨oc_11, od_11, .func (PySem.W.fnOf "_led" "_led" (defArgs st__led) (defBody st__led) (defScope st__led) .none kV_11 dc_11 pm_11 an_11 cd_11 ct_11), sl_11⟩) (c__led : PySem.W.codeIn K cd_11 "_led" = true) (k__led : PySem.W.keepIn K (.ref f_11) = true)
    (a__law_of : PySem.W.nsIn K mainGlobals "_law_of" = some (some (.ref f_12))) (l__law_of : K.lookup f_12 = some ⟨oc_12, od_12, .func (PySem.W.fnOf "_law_of" "_law_of" (defArgs st__law_of) (defBody st__law_of) (defScope st__law_of) .none kV_12 dc_12 pm_12 an_12 cd_12 ct_12), sl_12⟩) (c__law_of : PySem.W.codeIn K cd_12 "_law_of" = true) (k__law_of : PySem.W.keepIn K (.ref f_12) = true)
    (a__law_rows : PySem.W.nsIn K mainGlobals "_law_rows" = some (some (.ref f_13))) (l__law_rows : K.lookup f_13 = some ⟨oc_13, od_13, .func (PySem.W.fnOf "_law_rows" "_law_rows" (defArgs st__law_rows) (defBody st__law_rows) (defScope st__law_rows) .none kV_13 dc_13 pm_13 an_13 cd_13 ct_13), sl_13⟩) (c__law_rows : PySem.W.codeIn K cd_13 "_law_rows" = true) (k__law_rows : PySem.W.keepIn K (.ref f_13) = true)
    (a_need_size : PySem.W.nsIn K mainGlobals "need_size" = some (some (.ref f_14))) (l_need_size : K.lookup f_14 = some ⟨oc_14, od_14, .func (PySem.W.fnOf "need_size" "need_size" (defArgs st_need_size) (defBody st_need_size) (defScope st_need_size) .none kV_14 dc_14 pm_14 an_14 cd_14 ct_14), sl_14⟩) (c_need_size : PySem.W.codeIn K cd_14 "need_size" = true) (k_need_size : PySem.W.keepIn K (.ref f_14) = true)
    (a_place_after : PySem.W.nsIn K mainGlobals "place_after" = some (some (.ref f_15))) (l_place_after : K.lookup f_15 = some ⟨oc_15, od_15, .func (PySem.W.fnOf "place_after" "place_after" (defArgs st_place_after) (defBody st_place_after) (defScope st_place_after) .none kV_15 dc_15 pm_15 an_15 cd_15 ct_15), sl_15⟩) (c_place_after : PySem.W.codeIn K cd_15 "place_after" = true) (k_place_after : PySem.W.keepIn K (.ref f_15) = true)
    (a_row_to : PySem.W.nsIn K mainGlobals "row_to" = some (some (.ref f_16))) (l_row_to : K.lookup f_16 = some ⟨oc_16, od_16, .func (PySem.W.fnOf "row_to" "row_to" (defArgs st_row_to) (defBody st_row_to) (defScope st_row_to) .none kV_16 dc_16 pm_16 an_16 cd_16 ct_16), sl_16⟩) (c_row_to : PySem.W.codeIn K cd_16 "row_to" = true) (k_row_to : PySem.W.keepIn K (.ref f_16) = true)
    (a__law_led : PySem.W.nsIn K mainGlobals "_law_led" = some (some (.ref f_17))) (l__law_led : K.lookup f_17 = some ⟨oc_17, od_17, .func (PySem.W.fnOf "_law_led" "_law_led" (defArgs st__law_led) (defBody st__law_led) (defScope st__law_led) .none kV_17 dc_17 pm_17 an_17 cd_17 ct_17), sl_17⟩) (c__law_led : PySem.W.codeIn K cd_17 "_law_led" = true) (k__law_led : PySem.W.keepIn K (.ref f_17) = true)
    (a__law_great_right : PySem.W.nsIn K mainGlobals "_law_great_right" = some (some (.ref f_18))) (l__law_great_right : K.lookup f_18 = some ⟨oc_18, od_18, .func (PySem.W.fnOf "_law_great_right" "_law_great_right" (defArgs st__law_great_right) (defBody st__law_great_right) (defScope st__law_great_right) .none kV_18 dc_18 pm_18 an_18 cd_18 ct_18), sl_18⟩) (c__law_great_right : PySem.W.codeIn K cd_18 "_law_great_right" = true) (k__law_great_right : PySem.W.keepIn K (.ref f_18) = true)
    (a__law_right : PySem.W.nsIn K mainGlobals "_law_right" = some (some (.ref f_19))) (l__law_right : K.lookup f_19 = some ⟨oc_19, od_19, .func (PySem.W.fnOf "_law_right" "_law_right" (defArgs st__law_right) (defBody st__law_right) (defScope st__law_right) .none kV_19 dc_19 pm_19 an_19 cd_19 ct_19), sl_19⟩) (c__law_right : PySem.W.codeIn K cd_19 "_law_right" = true) (k__law_right : PySem.W.keepIn K (.ref f_19) = true)
    (a_law : PySem.W.nsIn K mainGlobals "law" = some (some (.ref f_20))) (l_law : K.lookup f_20 = some ⟨oc_20, od_20, .func (PySem.W.fnOf "law" "law" (defArgs st_law) (defBody st_law) (defScope st_law) .none kV_20 dc_20 pm_20 an_20 cd_20 ct_20), sl_20⟩) (c_law : PySem.W.codeIn K cd_20 "law" = true) (k_law : PySem.W.keepIn K (.ref f_20) = true)
    (z_abs : PySem.W.nsIn K mainGlobals "abs" = some none)
    (z_all : PySem.W.nsIn K mainGlobals "all" = some none)
    (z_divmod : PySem.W.nsIn K mainGlobals "divmod" = some none)
    (z_int : PySem.W.nsIn K mainGlobals "int" = some none)
    (z_len : PySem.W.nsIn K mainGlobals "len" = some none)
    (z_list : PySem.W.nsIn K mainGlobals "list" = some none)
    (z_max : PySem.W.nsIn K mainGlobals "max" = some none)
    (z_min : PySem.W.nsIn K mainGlobals "min" = some none)
    (z_range : PySem.W.nsIn K mainGlobals "range" = some none)
    (z_repr : PySem.W.nsIn K mainGlobals "repr" = some none)
    (z_sorted : PySem.W.nsIn K mainGlobals "sorted" = some none)
    (z_str : PySem.W.nsIn K mainGlobals "str" = some none)
    (z_type : PySem.W.nsIn K mainGlobals "type" = some none)
    (z_MOST_DECK : PySem.W.nsIn K mainGlobals "MOST_DECK" = some (some (.int 1000000 t_MOST_DECK)))
    (z__MOST_TIMES : PySem.W.nsIn K mainGlobals "_MOST_TIMES" = some (some (.int 1000000000000000000000000000000 t__MOST_TIMES)))
    (z__SHUFFLES : PySem.W.nsIn K mainGlobals "_SHUFFLES" = some (some (.ref tu__SHUFFLES))) (y__SHUFFLES : K.lookup tu__SHUFFLES = some ⟨.type "tuple", odt__SHUFFLES, .seq #[.str ⟨#[111, 117, 116]⟩ tk__SHUFFLES_0, .str ⟨#[105, 110]⟩ tk__SHUFFLES_1, .str ⟨#[102, 111, 108, 100]⟩ tk__SHUFFLES_2] nt__SHUFFLES, slt__SHUFFLES⟩)
    : ∃ fd : FuncData, (∀ (s : Shared) (u : Value), BindsTo s fd ⟨[u], []⟩ [("script", u)]) ∧ ∀ base : Heap, K.In base → base.Ns mainGlobals mg → DefOk P w ⟨K, mg⟩ base 8 fa fd ["script"] R_law := by
  have e := hfa.symm.trans (PySem.W.mg_of X G a_law)
  cases e
  have T : Glob K mg := ⟨PySem.W.mg_none_of X G z_abs, PySem.W.mg_none_of X G z_all, PySem.W.mg_none_of X G z_divmod, PySem.W.mg_none_of X G z_int, PySem.W.mg_none_of X G z_len, PySem.W.mg_none_of X G z_list, PySem.W.mg_none_of X G z_max, PySem.W.mg_none_of X G z_min, PySem.W.mg_none_of X G z_range, PySem.W.mg_none_of X G z_repr, PySem.W.mg_none_of X G z_sorted, PySem.W.mg_none_of X G z_str, PySem.W.mg_none_of X G z_type, ⟨_, PySem.W.mg_of X G z_MOST_DECK⟩, ⟨_, PySem.W.mg_of X G z__MOST_TIMES⟩, ⟨_, PySem.W.mg_of X G z__SHUFFLES, fun H => sqT_known y__SHUFFLES (show (3 : Nat) ≤ sizeLine by rw [line_eq]; omega) (.cons ⟨_, rfl⟩ (.cons ⟨_, rfl⟩ (.cons ⟨_, rfl⟩ (.nil))))⟩⟩
  refine ⟨PySem.W.fnOf "law" "law" (defArgs st_law) (defBody st_law) (defScope st_law) .none kV_20 dc_20 pm_20 an_20 cd_20 ct_20, fun s u => .of_eq rfl, fun base _ _ => ?_⟩
  have RR_is_within : Gfn P w ⟨K, mg⟩ base 1 "is_within" st_is_within ["value", "least", "most"] R_is_within := ⟨⟨_, _, PySem.W.mg_of X G a_is_within, k_is_within, d_is_within T  l_is_within c_is_within, fun us kw r e s => .of_eq (e _ _ _ _ _ _)⟩⟩
  have GG_is_within : Gfn P w ⟨K, mg⟩ base 1 "is_within" st_is_within ["value", "least", "most"] G_is_within := RR_is_within.pure
  have RR_is_shuffle : Gfn P w ⟨K, mg⟩ base 1 "is_shuffle" st_is_shuffle ["value"] R_is_shuffle := ⟨⟨_, _, PySem.W.mg_of X G a_is_shuffle, k_is_shuffle, d_is_shuffle T  l_is_shuffle c_is_shuffle, fun us kw r e s => .of_eq (e _ _ _ _ _ _)⟩⟩
  have GG_is_shuffle : Gfn P w ⟨K, mg⟩ base 1 "is_shuffle" st_is_shuffle ["value"] G_is_shuffle := RR_is_shuffle.pure
  have RR__modulus : Gfn P w ⟨K, mg⟩ base 1 "_modulus" st__modulus ["shuffle", "size"] R__modulus := ⟨⟨_, _, PySem.W.mg_of X G a__modulus, k__modulus, d__modulus T  l__modulus c__modulus, fun us kw r e s => .of_eq (e _ _ _ _ _ _)⟩⟩
  have GG__modulus : Gfn P w ⟨K, mg⟩ base 1 "_modulus" st__modulus ["shuffle", "size"] G__modulus := RR__modulus.pure
  have RR__power_of_two : Gfn P w ⟨K, mg⟩ base 1 "_power_of_two" st__power_of_two ["exponent", "modulus"] R__power_of_two := ⟨⟨_, _, PySem.W.mg_of X G a__power_of_two, k__power_of_two, d__power_of_two T  l__power_of_two c__power_of_two, fun us kw r e s => .of_eq (e _ _ _ _ _ _)⟩⟩
  have GG__power_of_two : Gfn P w ⟨K, mg⟩ base 1 "_power_of_two" st__power_of_two ["exponent", "modulus"] G__power_of_two := RR__power_of_two.pure
  have RR__law_box : Gfn P w ⟨K, mg⟩ base 1 "_law_box" st__law_box ["script", "k"] R__law_box := ⟨⟨_, _, PySem.W.mg_of X G a__law_box, k__law_box, d__law_box T  l__law_box c__law_box, fun us kw r e s => .of_eq (e _ _ _ _ _ _)⟩⟩
  have GG__law_box : Gfn P w ⟨K, mg⟩ base 1 "_law_box" st__law_box ["script", "k"] G__law_box := RR__law_box.pure
  have RR__law_dice : Gfn P w ⟨K, mg⟩ base 1 "_law_dice" st__law_dice ["box", "sides"] R__law_dice := ⟨⟨_, _, PySem.W.mg_of X G a__law_dice, k__law_dice, d__law_dice T  l__law_dice c__law_dice, fun us kw r e s => .of_eq (e _ _ _ _ _ _)⟩⟩
  have GG__law_dice : Gfn P w ⟨K, mg⟩ base 1 "_law_dice" st__law_dice ["box", "sides"] G__law_dice := RR__law_dice.to g__law_dice
  have RR__law_moved : Gfn P w ⟨K, mg⟩ base 1 "_law_moved" st__law_moved ["shuffle", "size", "place"] R__law_moved := ⟨⟨_, _, PySem.W.mg_of X G a__law_moved, k__law_moved, d__law_moved T  l__law_moved c__law_moved, fun us kw r e s => .of_eq (e _ _ _ _ _ _)⟩⟩
  have GG__law_moved : Gfn P w ⟨K, mg⟩ base 1 "_law_moved" st__law_moved ["shuffle", "size", "place"] G__law_moved := RR__law_moved.pure
  have RR__law_figures : Gfn P w ⟨K, mg⟩ base 1 "_law_figures" st__law_figures ["number"] R__law_figures := ⟨⟨_, _, PySem.W.mg_of X G a__law_figures, k__law_figures, d__law_figures T  l__law_figures c__law_figures, fun us kw r e s => .of_eq (e _ _ _ _ _ _)⟩⟩
  have GG__law_figures : Gfn P w ⟨K, mg⟩ base 1 "_law_figures" st__law_figures ["number"] G__law_figures := RR__law_figures.pure
  have RR_need_number : Gfn P w ⟨K, mg⟩ base 2 "need_number" st_need_number ["value", "least", "most"] R_need_number := ⟨⟨_, _, PySem.W.mg_of X G a_need_number, k_need_number, d_need_number T GG_is_within l_need_number c_need_number, fun us kw r e s => .of_eq (e _ _ _ _ _ _)⟩⟩
  have GG_need_number : Gfn P w ⟨K, mg⟩ base 2 "need_number" st_need_number ["value", "least", "most"] G_need_number := RR_need_number.pure
  have RR_need_shuffle : Gfn P w ⟨K, mg⟩ base 2 "need_shuffle" st_need_shuffle ["value"] R_need_shuffle := ⟨⟨_, _, PySem.W.mg_of X G a_need_shuffle, k_need_shuffle, d_need_shuffle T GG_is_shuffle l_need_shuffle c_need_shuffle, fun us kw r e s => .of_eq (e _ _ _ _ _ _)⟩⟩
  have GG_need_shuffle : Gfn P w ⟨K, mg⟩ base 2 "need_shuffle" st_need_shuffle ["value"] G_need_shuffle := RR_need_shuffle.pure
  have RR_is_size : Gfn P w ⟨K, mg⟩ base 2 "is_size" st_is_size ["value"] R_is_size := ⟨⟨_, _, PySem.W.mg_of X G a_is_size, k_is_size, d_is_size T GG_is_within l_is_size c_is_size, fun us kw r e s => .of_eq (e _ _ _ _ _ _)⟩⟩
  have GG_is_size : Gfn P w ⟨K, mg⟩ base 2 "is_size" st_is_size ["value"] G_is_size := RR_is_size.pure
  have RR__led : Gfn P w ⟨K, mg⟩ base 2 "_led" st__led ["shuffle", "size", "place", "power"] R__led := ⟨⟨_, _, PySem.W.mg_of X G a__led, k__led, d__led T GG__modulus l__led c__led, fun us kw r e s => .of_eq (e _ _ _ _ _ _)⟩⟩
  have GG__led : Gfn P w ⟨K, mg⟩ base 2 "_led" st__led ["shuffle", "size", "place", "power"] G__led := RR__led.pure
  have RR__law_of : Gfn P w ⟨K, mg⟩ base 2 "_law_of" st__law_of ["box", "things"] R__law_of := ⟨⟨_, _, PySem.W.mg_of X G a__law_of, k__law_of, d__law_of T GG__law_dice l__law_of c__law_of, fun us kw r e s => .of_eq (e _ _ _ _ _ _)⟩⟩
  have GG__law_of : Gfn P w ⟨K, mg⟩ base 2 "_law_of" st__law_of ["box", "things"] G__law_of := RR__law_of.to g__law_of
  have RR__law_rows : Gfn P w ⟨K, mg⟩ base 2 "_law_rows" st__law_rows ["size"] R__law_rows := ⟨⟨_, _, PySem.W.mg_of X G a__law_rows, k__law_rows, d__law_rows T GG__law_moved l__law_rows c__law_rows, fun us kw r e s => .of_eq (e _ _ _ _ _ _)⟩⟩
  have GG__law_rows : Gfn P w ⟨K, mg⟩ base 2 "_law_rows" st__law_rows ["size"] G__law_rows := RR__law_rows.to g__law_rows
  have RR_need_size : Gfn P w ⟨K, mg⟩ base 3 "need_size" st_need_size ["value"] R_need_size := ⟨⟨_, _, PySem.W.mg_of X G a_need_size, k_need_size, d_need_size T GG_is_size l_need_size c_need_size, fun us kw r e s => .of_eq (e _ _ _ _ _ _)⟩⟩
  have GG_need_size : Gfn P w ⟨K, mg⟩ base 3 "need_size" st_need_size ["value"] G_need_size := RR_need_size.pure
  have RR_place_after : Gfn P w ⟨K, mg⟩ base 4 "place_after" st_place_after ["shuffle", "size", "number", "times"] R_place_after := ⟨⟨_, _, PySem.W.mg_of X G a_place_after, k_place_after, d_place_after T GG__led GG__modulus GG__power_of_two GG_need_number GG_need_shuffle GG_need_size l_place_after c_place_after, fun us kw r e s => .of_eq (e _ _ _ _ _ _)⟩⟩
  have GG_place_after : Gfn P w ⟨K, mg⟩ base 4 "place_after" st_place_after ["shuffle", "size", "number", "times"] G_place_after := RR_place_after.pure
  have RR_row_to : Gfn P w ⟨K, mg⟩ base 4 "row_to" st_row_to ["size", "number"] R_row_to := ⟨⟨_, _, PySem.W.mg_of X G a_row_to, k_row_to, d_row_to T GG_need_number GG_need_size l_row_to c_row_to, fun us kw r e s => .of_eq (e _ _ _ _ _ _)⟩⟩
  have GG_row_to : Gfn P w ⟨K, mg⟩ base 4 "row_to" st_row_to ["size", "number"] G_row_to := RR_row_to.pure
  have RR__law_led : Gfn P w ⟨K, mg⟩ base 5 "_law_led" st__law_led ["size", "words"] R__law_led := ⟨⟨_, _, PySem.W.mg_of X G a__law_led, k__law_led, d__law_led T GG_place_after l__law_led c__law_led, fun us kw r e s => .of_eq (e _ _ _ _ _ _)⟩⟩
  have GG__law_led : Gfn P w ⟨K, mg⟩ base 5 "_law_led" st__law_led ["size", "words"] G__law_led := RR__law_led.pure
  have RR__law_great_right : Gfn P w ⟨K, mg⟩ base 6 "_law_great_right" st__law_great_right ["box"] R__law_great_right := ⟨⟨_, _, PySem.W.mg_of X G a__law_great_right, k__law_great_right, d__law_great_right T GG__law_dice GG__law_figures GG__law_led GG__law_of GG_row_to l__law_great_right c__law_great_right, fun us kw r e s => .of_eq (e _ _ _ _ _ _)⟩⟩
  have GG__law_great_right : Gfn P w ⟨K, mg⟩ base 6 "_law_great_right" st__law_great_right ["box"] G__law_great_right := RR__law_great_right.to g__law_great_right
  have RR__law_right : Gfn P w ⟨K, mg⟩ base 7 "_law_right" st__law_right ["box"] R__law_right := ⟨⟨_, _, PySem.W.mg_of X G a__law_right, k__law_right, d__law_right T GG__law_dice GG__law_figures GG__law_great_right GG__law_led GG__law_of GG__law_rows GG_row_to l__law_right c__law_right, fun us kw r e s => .of_eq (e _ _ _ _ _ _)⟩⟩
  have GG__law_right : Gfn P w ⟨K, mg⟩ base 7 "_law_right" st__law_right ["box"] G__law_right := RR__law_right.to g__law_right
  exact d_law T GG__law_box GG__law_right l_law c_law
end
end Lawk57

open PySem PySem.W PyProof.Rows in
set_option maxRecDepth 100000 in
set_option maxHeartbeats 0 in
theorem PySem.Challenge.cw_foldworld_k57_whole_rows_to_places_holds : PySem.Challenge.rw_foldworld_k57_whole_rows_to_places.Holds := by
  w_on; o_law; k_head; (case hw => w_witness2)
  k_fill
  refine Fw.law_end (l := PySem.Challenge.rw_foldworld_k57_whole_rows_to_places) (n := 63) (k := 8) (x := "script") (F := Lawk57.R_law) rfl (by decide) rfl ⟨rfl, by decide, by decide⟩ (fun w h Y => PySem.W.kIn_of Y) ?D Lawk57.law_true
  case D =>
    intro w mg fa h KX G hmg
    refine' Lawk57.all_mk KX G hmg ?a_is_within ?l_is_within ?c_is_within ?k_is_within ?a_is_shuffle ?l_is_shuffle ?c_is_shuffle ?k_is_shuffle ?a__modulus ?l__modulus ?c__modulus ?k__modulus ?a__power_of_two ?l__power_of_two ?c__power_of_two ?k__power_of_two ?a__law_box ?l__law_box ?c__law_box ?k__law_box ?a__law_dice ?l__law_dice ?c__law_dice ?k__law_dice ?a__law_moved ?l__law_moved ?c__law_moved ?k__law_moved ?a__law_figures ?l__law_figures ?c__law_figures ?k__law_figures ?a_need_number ?l_need_number ?c_need_number ?k_need_number ?a_need_shuffle ?l_need_shuffle ?c_need_shuffle ?k_need_shuffle ?a_is_size ?l_is_size ?c_is_size ?k_is_size ?a__led ?l__led ?c__led ?k__led ?a__law_of ?l__law_of ?c__law_of ?k__law_of ?a__law_rows ?l__law_rows ?c__law_rows ?k__law_rows ?a_need_size ?l_need_size ?c_need_size ?k_need_size ?a_place_after ?l_place_after ?c_place_after ?k_place_after ?a_row_to ?l_row_to ?c_row_to ?k_row_to ?a__law_led ?l__law_led ?c__law_led ?k__law_led ?a__law_great_right ?l__law_great_right ?c__law_great_right ?k__law_great_right ?a__law_right ?l__law_right ?c__law_right ?k__law_right ?a_law ?l_law ?c_law ?k_law ?z_abs ?z_all ?z_divmod ?z_int ?z_len ?z_list ?z_max ?z_min ?z_range ?z_repr ?z_sorted ?z_str ?z_type ?z_MOST_DECK ?z__MOST_TIMES ?z__SHUFFLES ?y__SHUFFLES
    (case a_is_within => k_is)
    (case l_is_within => k_is)
    (case c_is_within => k_is)
    (case k_is_within => k_is)
    (case a_is_shuffle => k_is)
    (case l_is_shuffle => k_is)
    (case c_is_shuffle => k_is)
    (case k_is_shuffle => k_is)
    (case a__modulus => k_is)
    (case l__modulus => k_is)
    (case c__modulus => k_is)
    (case k__modulus => k_is)
    (case a__power_of_two => k_is)
    (case l__power_of_two => k_is)
    (case c__power_of_two => k_is)
    (case k__power_of_two => k_is)
    (case a__law_box => k_is)
    (case l__law_box => k_is)
    (case c__law_box => k_is)
    (case k__law_box => k_is)
    (case a__law_dice => k_is)
    (case l__law_dice => k_is)
    (case c__law_dice => k_is)
    (case k__law_dice => k_is)
    (case a__law_moved => k_is)
    (case l__law_moved => k_is)
    (case c__law_moved => k_is)
    (case k__law_moved => k_is)
    (case a__law_figures => k_is)
    (case l__law_figures => k_is)
    (case c__law_figures => k_is)
    (case k__law_figures => k_is)
    (case a_need_number => k_is)
    (case l_need_number => k_is)
    (case c_need_number => k_is)
    (case k_need_number => k_is)
    (case a_need_shuffle => k_is)
    (case l_need_shuffle => k_is)
    (case c_need_shuffle => k_is)
    (case k_need_shuffle => k_is)
    (case a_is_size => k_is)
    (case l_is_size => k_is)
    (case c_is_size => k_is)
    (case k_is_size => k_is)
    (case a__led => k_is)
    (case l__led => k_is)
    (case c__led => k_is)
    (case k__led => k_is)
    (case a__law_of => k_is)
    (case l__law_of => k_is)
    (case c__law_of => k_is)
    (case k__law_of => k_is)
    (case a__law_rows => k_is)
    (case l__law_rows => k_is)
    (case c__law_rows => k_is)
    (case k__law_rows => k_is)
    (case a_need_size => k_is)
    (case l_need_size => k_is)
    (case c_need_size => k_is)
    (case k_need_size => k_is)
    (case a_place_after => k_is)
    (case l_place_after => k_is)
    (case c_place_after => k_is)
    (case k_place_after => k_is)
    (case a_row_to => k_is)
    (case l_row_to => k_is)
    (case c_row_to => k_is)
    (case k_row_to => k_is)
    (case a__law_led => k_is)
    (case l__law_led => k_is)
    (case c__law_led => k_is)
    (case k__law_led => k_is)
    (case a__law_great_right => k_is)
    (case l__law_great_right => k_is)
    (case c__law_great_right => k_is)
    (case k__law_great_right => k_is)
    (case a__law_right => k_is)
    (case l__law_right => k_is)
    (case c__law_right => k_is)
    (case k__law_right => k_is)
    (case a_law => k_is)
    (case l_law => k_is)
    (case c_law => k_is)
    (case k_law => k_is)
    (case z_abs => k_is)
    (case z_all => k_is)
    (case z_divmod => k_is)
    (case z_int => k_is)
    (case z_len => k_is)
    (case z_list => k_is)
    (case z_max => k_is)
    (case z_min => k_is)
    (case z_range => k_is)
    (case z_repr => k_is)
    (case z_sorted => k_is)
    (case z_str => k_is)
    (case z_type => k_is)
    (case z_MOST_DECK => k_is)
    (case z__MOST_TIMES => k_is)
    (case z__SHUFFLES => k_is)
    (case y__SHUFFLES => k_is)
